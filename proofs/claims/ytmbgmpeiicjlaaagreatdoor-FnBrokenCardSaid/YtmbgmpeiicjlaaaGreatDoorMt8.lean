/-
  CdD, New, WoD, List, ListF, MarkF, ListLaw, FlO, YrP, YrG.
-/
import Derived.Test.YtmbgmpeiicjlaaaGreatDoorAsEMg
import Derived.Test.YtmbgmpeiicjlaaaGreatDoorMt1
import Derived.Test.YtmbgmpeiicjlaaaGreatDoorMt7
import Derived.Test.YtmbgmpeiicjlaaaGreatDoorMt6
import Derived.Test.YtmbgmpeiicjlaaaGreatDoorRows
import Derived.WalkSpells
import Derived.WalkLawsBesides
import Derived.Lib.Hide
import Derived.Deep.Cut
import Derived.Deep.DeepCutAuto
import Derived.Test.YtmbgmpeiicjlaaaGreatDoorMt2
import Derived.OwnWalk
import Derived.Laws.AppendOwn
import Derived.Maps.AppendAt
import Derived.Test.YtmbgmpeiicjlaaaGreatDoorMt4

namespace Go.Proofs.YtmbgmpeiicjlaaaGreatDoor

open Go.ChangeShapes Go.WideShapes Go.ChangeAt Go.RowKit

/-- A refusal: none, of a call, of an hour, of a floor. -/
inductive Rf where
  | non
  | call (c : Int)
  | hour (h : Int)
  | floor (cs : Array Value)

def rfV : Rf → Value
  | .non => .nilIface
  | .call c => .iface 104 (.agg #[.int .i64 c])
  | .hour h => .iface 106 (.agg #[.int .i64 h])
  | .floor cs => .iface 102 (.agg cs)

def rfC : Rf → Int
  | .non => 0
  | .call c => c
  | .hour _ => 6
  | .floor _ => 4

def rfOk : Rf → Prop
  | .floor cs => cs.size = 24 ∧ ∀ v ∈ cs, v.oneCell' = true
  | _ => True

def zerC : Array Value := #[.float .f32 0, .float .f32 0, .float .f32 0, .float .f32 0, .float .f32 0, .float .f32 0, .float .f32 0, .float .f32 0, .float .f32 0, .float .f32 0, .float .f32 0, .float .f32 0, .float .f32 0, .float .f32 0, .float .f32 0, .float .f32 0, .float .f32 0, .float .f32 0, .float .f32 0, .float .f32 0, .float .f32 0, .float .f32 0, .float .f32 0, .float .f32 0]

theorem one_i64 (c : Int) : ∀ v ∈ (#[.int .i64 c] : Array Value), v.oneCell' = true := by
  intro v hv
  simp only [List.mem_toArray, List.mem_cons, List.not_mem_nil, or_false] at hv
  subst hv; rfl

theorem three_newD (w : World) (o1 o2 o3 : Obj) : (((w.alloc o1).alloc o2).alloc o3).heap[w.heap.size]? = some o1 ∧ (((w.alloc o1).alloc o2).alloc o3).heap[w.heap.size + 1]? = some o2 ∧ (((w.alloc o1).alloc o2).alloc o3).heap[w.heap.size + 1 + 1]? = some o3 ∧ Below w.heap.size w (((w.alloc o1).alloc o2).alloc o3) := by
  have e : ∀ (w : World) (o : Obj) (i : Nat), (w.alloc o).heap[i]? = if i = w.heap.size then some o else w.heap[i]? := fun w o i => by
    show (w.heap.push o)[i]? = _
    exact Array.getElem?_push
  refine ⟨?_, ?_, ?_, (((Below.refl _ _).alloc (Nat.le_refl _) _).alloc (by simp) _).alloc (by simp; omega) _⟩
  all_goals simp only [e, World.size_alloc]
  · rw [if_neg (by omega), if_neg (by omega), if_true]
  · rw [if_neg (by omega), if_true]
  · rw [if_true]

set_option maxRecDepth 100000 in
set_option maxHeartbeats 4000000 in
theorem codeD_non (w : World) : Calls Tryz.prog 39 #[.nilIface] w fun e w' => e = .returned (.int .i64 0) ∧ Below w.heap.size w w' := by
  go_enter Tryz.func39, Tryz.ntmps39
  go_wp2_with (go_at_call 69; refine (as_nil _ _).mono ?_; rintro e w' ⟨rfl, rfl⟩)
  go_ret
  exact ⟨rfl, (three_newD _ _ _ _).2.2.2⟩

set_option maxRecDepth 100000 in
set_option maxHeartbeats 4000000 in
theorem codeD_call (c : Int) (w : World) (hE : ErrT w) : Calls Tryz.prog 39 #[.iface 104 (.agg #[.int .i64 c])] w fun e w' => e = .returned (.int .i64 c) ∧ Below w.heap.size w w' := by
  go_enter Tryz.func39, Tryz.ntmps39
  go_upto_region 4 with (fail)
  refine abs_code (fun W => W.heap[w.heap.size]? = some (.cells #[.int .i64 0] 104 (0, 0)) ∧ W.heap[w.heap.size + 1]? = some (.cells #[.int .i64 0] 106 (0, 0)) ∧ W.heap[w.heap.size + 1 + 1]? = some (.cells zerC 102 (0, 0)) ∧ Below w.heap.size w W) ⟨(three_newD _ _ _ _).1, (three_newD _ _ _ _).2.1, (three_newD _ _ _ _).2.2.1, (three_newD _ _ _ _).2.2.2⟩ ?_
  rintro W ⟨h0, h1, h2, hb⟩
  have hs1 : w.heap.size ≤ w.heap.size + 1 := by omega
  have hs2 : w.heap.size ≤ w.heap.size + 1 + 1 := by omega
  generalize w.heap.size + 1 + 1 = b2 at *
  generalize w.heap.size + 1 = b1 at *
  have HE := Lib.hid (errT_below hE hb)
  have H0 := Lib.hid h0
  have H1 := Lib.hid h1
  have H2 := Lib.hid h2
  clear h0 h1 h2 hE
  go_upto_region 5 with (go_at_call 69; refine (as_Call_Call _ _ _ _ HE.out H0.out rfl rfl (one_i64 c)).mono ?_; rintro e W9 ⟨rfl, U, hU, hrow, rfl⟩; replace hb := hb.trans (hU.mono hb.size); clear hU)
  have q : (U.setRow w.heap.size #[.int .i64 c]).cell? ⟨w.heap.size, 0, none⟩ = some (.int .i64 c) := by rw [cell_of_row _ _ _ _ _ _ (setRow_heap _ _ _ _ _ _ hrow)]; rfl
  go_wp2
  go_ret
  exact ⟨rfl, below_setRow hb (Nat.le_refl _) _⟩

set_option maxRecDepth 100000 in
set_option maxHeartbeats 4000000 in
theorem codeD_floor (cs : Array Value) (hc : cs.size = 24) (h1 : ∀ v ∈ cs, v.oneCell' = true) (w : World) (hE : ErrT w) : Calls Tryz.prog 39 #[.iface 102 (.agg cs)] w fun e w' => e = .returned (.int .i64 4) ∧ Below w.heap.size w w' := by
  have HC := Lib.hid (And.intro hc h1)
  clear hc h1
  go_enter Tryz.func39, Tryz.ntmps39
  go_upto_region 4 with (fail)
  refine abs_code (fun W => W.heap[w.heap.size]? = some (.cells #[.int .i64 0] 104 (0, 0)) ∧ W.heap[w.heap.size + 1]? = some (.cells #[.int .i64 0] 106 (0, 0)) ∧ W.heap[w.heap.size + 1 + 1]? = some (.cells zerC 102 (0, 0)) ∧ Below w.heap.size w W) ⟨(three_newD _ _ _ _).1, (three_newD _ _ _ _).2.1, (three_newD _ _ _ _).2.2.1, (three_newD _ _ _ _).2.2.2⟩ ?_
  rintro W ⟨h0, h1, h2, hb⟩
  have hs1 : w.heap.size ≤ w.heap.size + 1 := by omega
  have hs2 : w.heap.size ≤ w.heap.size + 1 + 1 := by omega
  generalize w.heap.size + 1 + 1 = b2 at *
  generalize w.heap.size + 1 = b1 at *
  have HE := Lib.hid (errT_below hE hb)
  have H0 := Lib.hid h0
  have H1 := Lib.hid h1
  have H2 := Lib.hid h2
  clear h0 h1 h2 hE
  go_upto_region 6 with (go_at_call 69; refine (as_Call_Floor _ _ _ HE.out).mono ?_; rintro e W1 ⟨rfl, hb1⟩; replace HE := Lib.hid (errT_below HE.out hb1); replace H0 := Lib.hid (below_row hb1 H0.out); replace H1 := Lib.hid (below_row hb1 H1.out); replace H2 := Lib.hid (below_row hb1 H2.out); replace hb := hb.trans (hb1.mono hb.size); clear hb1)
  go_wp2_with (go_at_call 69; refine (as_Floor_Floor _ _ _ _ HE.out H2.out HC.out.1 rfl HC.out.2).mono ?_; rintro e W9 ⟨rfl, U, hU, hrow, rfl⟩; replace hb := hb.trans (hU.mono hb.size); clear hU)
  go_ret
  exact ⟨rfl, below_setRow hb hs2 _⟩

set_option maxRecDepth 100000 in
set_option maxHeartbeats 4000000 in
theorem codeD_hour (h : Int) (w : World) (hE : ErrT w) : Calls Tryz.prog 39 #[.iface 106 (.agg #[.int .i64 h])] w fun e w' => e = .returned (.int .i64 6) ∧ Below w.heap.size w w' := by
  go_enter Tryz.func39, Tryz.ntmps39
  go_upto_region 4 with (fail)
  refine abs_code (fun W => W.heap[w.heap.size]? = some (.cells #[.int .i64 0] 104 (0, 0)) ∧ W.heap[w.heap.size + 1]? = some (.cells #[.int .i64 0] 106 (0, 0)) ∧ W.heap[w.heap.size + 1 + 1]? = some (.cells zerC 102 (0, 0)) ∧ Below w.heap.size w W) ⟨(three_newD _ _ _ _).1, (three_newD _ _ _ _).2.1, (three_newD _ _ _ _).2.2.1, (three_newD _ _ _ _).2.2.2⟩ ?_
  rintro W ⟨h0, h1, h2, hb⟩
  have hs1 : w.heap.size ≤ w.heap.size + 1 := by omega
  have hs2 : w.heap.size ≤ w.heap.size + 1 + 1 := by omega
  generalize w.heap.size + 1 + 1 = b2 at *
  generalize w.heap.size + 1 = b1 at *
  have HE := Lib.hid (errT_below hE hb)
  have H0 := Lib.hid h0
  have H1 := Lib.hid h1
  have H2 := Lib.hid h2
  clear h0 h1 h2 hE
  go_upto_region 6 with (go_at_call 69; refine (as_Call_Hour _ _ _ HE.out).mono ?_; rintro e W1 ⟨rfl, hb1⟩; replace HE := Lib.hid (errT_below HE.out hb1); replace H0 := Lib.hid (below_row hb1 H0.out); replace H1 := Lib.hid (below_row hb1 H1.out); replace H2 := Lib.hid (below_row hb1 H2.out); replace hb := hb.trans (hb1.mono hb.size); clear hb1)
  go_upto_region 8 with (go_at_call 69; refine (as_Floor_Hour _ _ _ HE.out).mono ?_; rintro e W2 ⟨rfl, hb1⟩; replace HE := Lib.hid (errT_below HE.out hb1); replace H0 := Lib.hid (below_row hb1 H0.out); replace H1 := Lib.hid (below_row hb1 H1.out); replace H2 := Lib.hid (below_row hb1 H2.out); replace hb := hb.trans (hb1.mono hb.size); clear hb1)
  go_wp2_with (go_at_call 69; refine (as_Hour_Hour _ _ _ _ HE.out H1.out rfl rfl (one_i64 h)).mono ?_; rintro e W9 ⟨rfl, U, hU, hrow, rfl⟩; replace hb := hb.trans (hU.mono hb.size); clear hU)
  go_ret
  exact ⟨rfl, below_setRow hb hs1 _⟩

theorem codeOfDay_any (r : Rf) (hr : rfOk r) (w : World) (hE : ErrT w) : Calls Tryz.prog 39 #[rfV r] w fun e w' => e = .returned (.int .i64 (rfC r)) ∧ Below w.heap.size w w' :=
  match r, hr with
  | .non, _ => codeD_non w
  | .call c, _ => codeD_call c w hE
  | .hour h, _ => codeD_hour h w hE
  | .floor cs, hr => codeD_floor cs hr.1 hr.2 w hE

end Go.Proofs.YtmbgmpeiicjlaaaGreatDoor

namespace Go.Proofs.YtmbgmpeiicjlaaaGreatDoor

open Go Go.RowKit

theorem heap_push (w : World) (o : Obj) (i : Nat) : (w.alloc o).heap[i]? = if i = w.heap.size then some o else w.heap[i]? := by
  show (w.heap.push o)[i]? = _
  exact Array.getElem?_push

theorem three_new (w : World) (a b c : Obj) : (((w.alloc a).alloc b).alloc c).heap[w.heap.size]? = some a ∧ (((w.alloc a).alloc b).alloc c).heap[w.heap.size + 1]? = some b ∧ (((w.alloc a).alloc b).alloc c).heap[w.heap.size + 1 + 1]? = some c ∧ Below w.heap.size w (((w.alloc a).alloc b).alloc c) := by
  refine ⟨?_, ?_, ?_, (((Below.refl _ _).alloc (Nat.le_refl _) _).alloc (by simp) _).alloc (by simp; omega) _⟩
  all_goals simp only [heap_push, World.size_alloc]
  · rw [if_neg (by omega), if_neg (by omega), if_true]
  · rw [if_neg (by omega), if_true]
  · rw [if_true]

end Go.Proofs.YtmbgmpeiicjlaaaGreatDoor

namespace Go.Proofs.YtmbgmpeiicjlaaaGreatDoor

open Go.RowKit Go.Shelf

attribute [local go_sem] Oper.semAt_some run_store_float

/-- What the walk keeps: all that lay there, and the sum so far in the next block. -/
def DayI (W0 : World) (g : Nat → Nat) (pre : List Hr) (W : World) : Prop :=
  ∃ s : Nat, pos32 s = true ∧ Below W0.heap.size W0 W ∧ W.heap[W0.heap.size]? = some (.cells #[.float .f32 s] 25 (0, 0)) ∧ (Good pre → s = sumTo g pre.length)

theorem dayI_own (W0 : World) (g : Nat → Nat) (B : Nat) (hB : W0.heap.size ≤ B) : OwnFrom B (DayI W0 g) := by
  intro s W W' row ⟨x, hx, hb, h1, hg⟩ hg' hr
  have hr2 := fun r e => (hr r e).2
  exact ⟨x, hx, ownFrom_below (β := Unit) (Nat.le_refl _) hB () W W' row hb hg' hr, heap_kept h1 hg' hr2, hg⟩

theorem day_step {W0 W W1 : World} {n0 : Nat} {g : Nat → Nat} {pre : List Hr} {k : Nat} {h01 : 0 ≤ (k : Int) ∧ (k : Int) < 24} {s : Nat} (hn : n0 ≤ W0.heap.size) (hl : pre.length < 24) (hs0 : pos32 s = true) (hg0 : pos32 (g k) = true)
    (hgood : Good pre → s = sumTo g pre.length) (hk : KeepsOthers W W1) (hbW : Below n0 W W1) (hb : Below W0.heap.size W0 W1) (hS : W1.heap[W0.heap.size]? = some (.cells #[.float .f32 s] 25 (0, 0))) :
    KeepsOthers W (W1.setCell ⟨W0.heap.size, 0, none⟩ (.float .f32 (fadd s (g k)))) ∧ Below n0 W (W1.setCell ⟨W0.heap.size, 0, none⟩ (.float .f32 (fadd s (g k)))) ∧ DayI W0 g (pre ++ [⟨k, h01⟩]) (W1.setCell ⟨W0.heap.size, 0, none⟩ (.float .f32 (fadd s (g k)))) := by
  refine ⟨hk.trans (KeepsOthers.setCell _ _ _), hbW.setCell (p := ⟨W0.heap.size, 0, none⟩) hn _, fadd s (g k), (add_ok hs0 hg0).2, hb.setCell (p := ⟨W0.heap.size, 0, none⟩) (Nat.le_refl _) _, ?_, ?_⟩
  · rw [heap_setCell_same _ _ _ _ _ _ hS]; rfl
  · intro hgs
    obtain ⟨hgp, hxk⟩ := good_snoc hgs hl
    have hkl : k = pre.length := by have : (k : Int) = (pre.length : Int) := hxk; omega
    rw [List.length_append, List.length_singleton, sumTo_succ, ← hgood hgp, hkl]

set_option maxRecDepth 100000 in
set_option maxHeartbeats 2000000 in
theorem windowOver_any (p1 p2 : Nat) (hs ts : List Int) (hh : hs.length = 24) (ht : ts.length = 24) (facing : Int) (g : Nat → Nat) (hpos : ∀ k, k < 24 → pos32 (g k) = true) (w : World)
    (hw : ∀ k : Nat, k < 24 → ∀ w1, Below w.heap.size w w1 → Calls Tryz.prog 80 #[(.func (.func 81) #[] #[.pointer (some ⟨p1, 0, none⟩), .pointer (some ⟨p2, 0, none⟩)]), .agg (sunC hs ts), .int .i64 (k : Int), .int .i64 facing] w1 fun e w' => e = .returned (.float .f32 (g k)) ∧ Below w1.heap.size w1 w') :
    Calls Tryz.prog 56 #[(.func (.func 81) #[] #[.pointer (some ⟨p1, 0, none⟩), .pointer (some ⟨p2, 0, none⟩)]), .agg (sunC hs ts), .int .i64 facing] w fun e w' => e = .returned (.float .f32 (sumTo g 24)) ∧ Below w.heap.size w w' := by
  refine (callsIn_wide (n := 4)).1 ?_
  have HW := Lib.hid hw
  have HPOS := Lib.hid hpos
  have Hh := Lib.hid hh
  have Ht := Lib.hid ht
  clear hh ht hw hpos
  refine callsIn_of_wp_marks Tryz.func56 rfl trivial ?_ rfl
  simp only [Tryz.ntmps56, List.size_toArray, List.length_cons, List.length_nil, Nat.reduceAdd, Nat.reduceSub, Array.replicate_succ, Array.replicate_zero, List.push_toArray, List.append_toArray, List.nil_append, List.cons_append]
  refine wpIn_wide.2 ?_
  go_upto_region 1 with (fail)
  refine abs_world (fun W => W.heap[w.heap.size]? = some (.cells #[(.func (.func 81) #[] #[.pointer (some ⟨p1, 0, none⟩), .pointer (some ⟨p2, 0, none⟩)])] 91 (0, 0)) ∧ W.heap[w.heap.size + 1]? = some (.cells (sunC hs ts) 46 (0, 0)) ∧ W.heap[w.heap.size + 1 + 1]? = some (.cells #[.int .i64 facing] 2 (0, 0)) ∧ Below w.heap.size w W) ⟨(three_new _ _ _ _).1, (three_new _ _ _ _).2.1, (three_new _ _ _ _).2.2.1, (three_new _ _ _ _).2.2.2⟩ ?_
  rintro W0 ⟨r6, r2, r3, hb⟩
  generalize w.heap.size + 1 + 1 = g3 at *
  generalize w.heap.size + 1 = g2 at *
  have hle : w.heap.size ≤ W0.heap.size := hb.size
  have R2 := Lib.hid r2
  have R3 := Lib.hid r3
  have R6 := Lib.hid r6
  have HB := Lib.hid hb
  clear r2 r3 r6 hb
  go_wp2
  refine (wpIn_wide (n := 4)).1 ?_
  refine wpIn_rangeFunc_ownF rfl (by decide) (gf := 79) (lb := #[]) rfl trivial (enters_of Tryz.func79 (by kernel_rfl) rfl)
    (eachHour_stops Fence.wide _ trivial rfl (by decide) w.heap.size _) belowK_t (belowK_b (by simp; omega)) (Below.refl _ _) (fun _ => rfl)
    (DayI W0 g) (fun _ _ _ => False) (dayI_own W0 _ _ (by first | (simp; done) | (simp; omega))) (fun _ _ _ _ _ hs _ _ => hs) ?h0
    (fun x => { tmps := #[(.func (.func 81) #[] #[.pointer (some ⟨p1, 0, none⟩), .pointer (some ⟨p2, 0, none⟩)]), .agg (sunC hs ts), .int .i64 facing, .pointer (some ⟨w.heap.size, 0, none⟩), .pointer (some ⟨g2, 0, none⟩), .pointer (some ⟨g3, 0, none⟩), .float .f32 0, .pointer (some ⟨W0.heap.size, 0, none⟩), .int .i64 x.1, .int .i64 x.1, undef, undef, undef, undef, undef, undef, undef, undef], defers := [] }) ?assign ?body ?done ?stop
  case h0 => exact ⟨0, by decide, (Below.refl _ _).alloc (Nat.le_refl _) _, heap_alloc_new _ _, fun _ => rfl⟩
  case assign =>
    intro l x W K hK
    gi_wp2
    exact hK
  case body =>
    rintro l pre ⟨x, hx0, hx1⟩ W ⟨s, hs0, hbw, hS, hg⟩ hl
    obtain ⟨k, rfl⟩ := Int.eq_ofNat_of_zero_le hx0
    have hk : k < 24 := by omega
    have HG0 : Hid (pos32 (g k) = true) := HPOS.out k hk
    have HC : Hid (∀ w1, Below W0.heap.size W0 w1 → Calls Tryz.prog 80 #[(.func (.func 81) #[] #[.pointer (some ⟨p1, 0, none⟩), .pointer (some ⟨p2, 0, none⟩)]), .agg (sunC hs ts), .int .i64 (k : Int), .int .i64 facing] w1 fun e w' => e = .returned (.float .f32 (g k)) ∧ Below w1.heap.size w1 w') := fun w1 hb1 => HW.out k hk w1 (HB.out.trans (hb1.mono HB.out.size))
    have radd : ∀ T w, (binOp .add T (.float .f32 s) (.float .f32 (g k))).run Tryz.prog w = .ok (.float .f32 (fadd s (g k))) w := fun T w => run_float_arith w .add T .f32 _ _ _ (add_ok hs0 HG0.out).1
    have hc : W.cell? ⟨W0.heap.size, 0, none⟩ = some (.float .f32 s) := by rw [cell_of_row W _ _ _ _ _ hS]; rfl
    have hwW : w.heap.size ≤ W.heap.size := Nat.le_trans hle hbw.size
    have HS0 := Lib.hid hS
    have HG := Lib.hid hg
    clear hS hg
    gi_wp2
    refine region_round (S := (fun W' => Below W0.heap.size W0 W')) arrU (no_defer (by rfl)) (fun ⟨_, _, h⟩ => h) hbw.drew (fun hHeld => ?_)
    refine take_at (i := 1) (d := 11) (v := ?_) rfl rfl (by kernel_rfl) (by kernel_rfl) (by kernel_rfl) (fun _ _ _ h => h) (Or.inl ⟨by rfl, ?hy1a1⟩) hHeld ?rest1a1
    case hy1a1 =>
      intro w' hS'
      have q1 : w'.cell? ⟨w.heap.size, 0, none⟩ = some (.func (.func 81) #[] #[.pointer (some ⟨p1, 0, none⟩), .pointer (some ⟨p2, 0, none⟩)]) := by rw [cell_of_row w' _ _ _ _ _ (below_row hS' R6.out)]; rfl
      go_simp
      try with_reducible rfl
    simp only [List.setIfInBounds_toArray, List.set_cons_zero, List.set_cons_succ]
    refine take_at (i := 2) (d := 12) (v := .agg (sunC hs ts)) rfl rfl (by kernel_rfl) (by kernel_rfl) (by kernel_rfl) (fun _ _ _ h => h) (yields_part (by rfl) 46 (.tmp 4) (by rfl) g2 0 48 (by rfl) 46 (sunC hs ts) (0, 0) _ (fun _ h => below_row h R2.out) Tryz.underlying46 rfl info_sun (sun_fits _ _ Hh.out Ht.out) (sunC hs ts) (sun_all _ _ Hh.out Ht.out)) hHeld ?_
    simp only [List.setIfInBounds_toArray, List.set_cons_zero, List.set_cons_succ]
    refine take_at (i := 3) (d := 13) (v := ?_) rfl rfl (by kernel_rfl) (by kernel_rfl) (by kernel_rfl) (fun _ _ _ h => h) (Or.inl ⟨by rfl, ?hy3a3⟩) hHeld ?rest3a3
    case hy3a3 =>
      intro w' hS'
      go_simp
      try with_reducible rfl
    simp only [List.setIfInBounds_toArray, List.set_cons_zero, List.set_cons_succ]
    refine take_at (i := 4) (d := 14) (v := ?_) rfl rfl (by kernel_rfl) (by kernel_rfl) (by kernel_rfl) (fun _ _ _ h => h) (Or.inl ⟨by rfl, ?hy4a4⟩) hHeld ?rest4a4
    case hy4a4 =>
      intro w' hS'
      have q3 : w'.cell? ⟨g3, 0, none⟩ = some (.int .i64 facing) := by rw [cell_of_row w' _ _ _ _ _ (below_row hS' R3.out)]; rfl
      go_simp
      try with_reducible rfl
    simp only [List.setIfInBounds_toArray, List.set_cons_zero, List.set_cons_succ]
    refine wpAnyH_ready (rs := [0, 5]) (by kernel_rfl) (by simp) ?_
    refine AllReadyH.cons rfl (fun K hK => ?_) (AllReadyH.cons rfl (fun K hK => ?_) AllReadyH.nil)
    · go_simp
      refine hK.out _ _ hHeld (fun hHeld2 => ?_)
      clear hK K hHeld2
      refine wpAnyH_ready (rs := [5]) (by kernel_rfl) (by simp) ?_
      refine AllReadyH.cons rfl (fun K hK => ?_) AllReadyH.nil
      go_simp
      refine (HC.out _ hHeld).mono ?_
      rintro e W3 ⟨rfl, hb1⟩
      refine hK.out _ _ (hHeld.trans (hb1.mono hHeld.size)) (fun hHeld2 => ?_)
      clear hK K
      replace hHeld := hHeld2
      clear hHeld2
      have hS1 : Hid (W3.heap[W0.heap.size]? = some (.cells #[.float .f32 s] 25 (0, 0))) := below_row hb1 HS0.out
      have hB2 : Hid (Below w.heap.size W W3) := (Below.drew (Below.refl w.heap.size W)).trans (hb1.mono hwW)
      have hK1 : Hid (KeepsOthers W W3) := (KeepsOthers.drew W).trans (keeps_of_below hb1)
      have hc1 : W3.cell? ⟨W0.heap.size, 0, none⟩ = some (.float .f32 s) := by rw [cell_of_row W3 _ _ _ _ _ hS1.out]; rfl
      have hf1 := frozen_of_row W3 W0.heap.size 0 _ _ hS1.out
      refine take_at (i := 6) (d := 16) (v := ?_) rfl rfl (by kernel_rfl) (by kernel_rfl) (by kernel_rfl) (fun _ _ _ h => h) (Or.inl ⟨by rfl, ?hy6u1⟩) hHeld ?rest6u1
      case hy6u1 =>
        intro w' hS'
        go_simp
        try with_reducible rfl
      simp only [List.setIfInBounds_toArray, List.set_cons_zero, List.set_cons_succ]
      refine wpAnyH_ready (rs := [7]) (by kernel_rfl) (by simp) ?_
      refine AllReadyH.cons rfl (fun K hK => ?_) AllReadyH.nil
      go_simp
      refine hK.out _ _ (hHeld.setCell (p := ⟨W0.heap.size, 0, none⟩) (Nat.le_refl _) _) (fun hHeld2 => ?_)
      clear hK K
      refine wpAnyH_done (by kernel_rfl) ?_ _
      gi_wp2
      exact day_step (g := g) hle hl hs0 HG0.out HG.out hK1.out hB2.out hHeld hS1.out
    · go_simp
      refine (HC.out _ hHeld).mono ?_
      rintro e W3 ⟨rfl, hb1⟩
      refine hK.out _ _ (hHeld.trans (hb1.mono hHeld.size)) (fun hHeld2 => ?_)
      clear hK K
      replace hHeld := hHeld2
      clear hHeld2
      have hS1 : Hid (W3.heap[W0.heap.size]? = some (.cells #[.float .f32 s] 25 (0, 0))) := below_row hb1 HS0.out
      have hB2 : Hid (Below w.heap.size W W3) := (Below.drew (Below.refl w.heap.size W)).trans (hb1.mono hwW)
      have hK1 : Hid (KeepsOthers W W3) := (KeepsOthers.drew W).trans (keeps_of_below hb1)
      have hc1 : W3.cell? ⟨W0.heap.size, 0, none⟩ = some (.float .f32 s) := by rw [cell_of_row W3 _ _ _ _ _ hS1.out]; rfl
      have hf1 := frozen_of_row W3 W0.heap.size 0 _ _ hS1.out
      refine wpAnyH_ready (rs := [0]) (by kernel_rfl) (by simp) ?_
      refine AllReadyH.cons rfl (fun K hK => ?_) AllReadyH.nil
      go_simp
      refine hK.out _ _ hHeld (fun hHeld2 => ?_)
      clear hK K hHeld2
      refine take_at (i := 6) (d := 16) (v := ?_) rfl rfl (by kernel_rfl) (by kernel_rfl) (by kernel_rfl) (fun _ _ _ h => h) (Or.inl ⟨by rfl, ?hy6u2⟩) hHeld ?rest6u2
      case hy6u2 =>
        intro w' hS'
        go_simp
        try with_reducible rfl
      simp only [List.setIfInBounds_toArray, List.set_cons_zero, List.set_cons_succ]
      refine wpAnyH_ready (rs := [7]) (by kernel_rfl) (by simp) ?_
      refine AllReadyH.cons rfl (fun K hK => ?_) AllReadyH.nil
      go_simp
      refine hK.out _ _ (hHeld.setCell (p := ⟨W0.heap.size, 0, none⟩) (Nat.le_refl _) _) (fun hHeld2 => ?_)
      clear hK K
      refine wpAnyH_done (by kernel_rfl) ?_ _
      gi_wp2
      exact day_step (g := g) hle hl hs0 HG0.out HG.out hK1.out hB2.out hHeld hS1.out
  case done =>
    rintro D zs W hD rfl ⟨s, hs0, hbw, hS, hg⟩ hK
    rename_i K hcont
    have hc : W.cell? ⟨W0.heap.size, 0, none⟩ = some (.float .f32 s) := by rw [cell_of_row W _ _ _ _ _ hS]; rfl
    have hD' : w.heap.size ≤ D := by simp at hD; omega
    have HSum := Lib.hid (hg good_all)
    have HK := Lib.hid hK
    have hby := HB.out.trans (hbw.mono hle)
    clear hg hS hD hK
    refine hcont _ _ ?_
    go_wp2
    refine ⟨by simp, .inl ⟨_, _, rfl, run_takeDeferred HK.out, ?_⟩⟩
    refine ⟨.float .f32 s, ?_, ?_, hby.trans (belowK_b (w := w) (Nat.le_refl _) W D _ _ hD' HK.out rfl rfl)⟩
    · exact results_tmp (fn := Tryz.f56) rfl _ _ _
    · rw [HSum.out, hrs_length]
  case stop =>
    rintro D c pre W _ _ h _
    exact h.elim

theorem windowOver_is (n : Int) (wd gp : Nat) (t : Int) (sh : Nat) (hs ts : List Int) (hh : hs.length = 24) (ht : ts.length = 24) (OK : BlOk n wd gp t sh) (facing : Int) (ho : okB hs ts = true) (h3 : inF facing = true) (p1 p2 : Nat) (W : World) (c1 : W.heap[p1]? = some (.cells (blindC n wd gp t sh) 28 (0, 0))) (c2 : W.heap[p2]? = some (.cells #[.float .f32 (opnB wd gp t 1)] 25 (0, 0))) :
    Calls Tryz.prog 56 #[(.func (.func 81) #[] #[.pointer (some ⟨p1, 0, none⟩), .pointer (some ⟨p2, 0, none⟩)]), .agg (sunC hs ts), .int .i64 facing] W fun e w' => e = .returned (.float .f32 (sumTo (fun h => winB wd gp t sh hs ts (h : Int) facing) 24)) ∧ Below W.heap.size W w' :=
  windowOver_any p1 p2 hs ts hh ht facing _ (fun k hk => winB_pos wd gp t OK.2.2.2.2.2.2.2.2 hs ts (k : Int) facing (okB_h hh ht ho (k : Int) (by omega) (by omega)).2) W
    (fun k hk w1 hb1 => windowAt_any n wd gp t sh hs ts hh ht OK (k : Int) facing (by omega) (by omega) (inF_bd h3).1 (inF_bd h3).2 (okB_h hh ht ho (k : Int) (by omega) (by omega)).2 (okB_t hh ht ho (k : Int) (by omega) (by omega)).1 (okB_t hh ht ho (k : Int) (by omega) (by omega)).2 p1 p2 w1 (below_row hb1 c1) (below_row hb1 c2))

end Go.Proofs.YtmbgmpeiicjlaaaGreatDoor

namespace Go.Proofs.YtmbgmpeiicjlaaaGreatDoor

open Go.RowKit

/-- A slice of the call's own, from block number base on, that holds the elements xs. -/
def Own {α : Type} (w : World) (base : Nat) (E : TypeId) (mk : α → Value) (v : Value) (xs : List α) : Prop :=
  ∃ a cap, v = .slice a xs.length cap ∧ cap ≤ maxLen ∧ xs.length ≤ cap ∧
    ((a = none ∧ xs = []) ∨ ∃ g cur, a = some ⟨g, 0, none⟩ ∧ base ≤ g ∧ w.heap[g]? = some (.cells cur E (0, 0)) ∧ ∀ k, k < xs.length → cur[k]? = (xs[k]?).map mk)

theorem own_below {α : Type} {w w' : World} {base B : Nat} {E : TypeId} {mk : α → Value} {v : Value} {xs : List α} (h : Own w base E mk v xs) (hb : Below w.heap.size w w') (hB : B ≤ base) : Own w' B E mk v xs := by
  obtain ⟨a, cap, h1, h2, h3, h4⟩ := h
  refine ⟨a, cap, h1, h2, h3, h4.imp id ?_⟩
  rintro ⟨g, cur, e, hg, hc, hk⟩
  exact ⟨g, cur, e, by omega, below_row hb hc, hk⟩

theorem cell_k {w : World} {g : Nat} {cur : Array Value} {E : TypeId} {fr : Nat × Nat} {k : Nat} {v : Value} (hc : w.heap[g]? = some (.cells cur E fr)) (hk : cur[k]? = some v) : w.cell? ⟨g, k, none⟩ = some v := by
  rw [cell_of_row w g k cur E fr hc, hk]

end Go.Proofs.YtmbgmpeiicjlaaaGreatDoor

namespace Go.Proofs.YtmbgmpeiicjlaaaGreatDoor

open Go.RowKit

end Go.Proofs.YtmbgmpeiicjlaaaGreatDoor

namespace Go.Proofs.YtmbgmpeiicjlaaaGreatDoor

open Go.RowKit

theorem run_store_fl (P : Program) (w : World) (a : Addr) (k : FloatKind) (b : Nat) (m : Mode) : (store a (.float k b) m).run P w = stored P w a (.float k b) m := run_store P w a _ m rfl

attribute [local go_sem] run_store_fl

end Go.Proofs.YtmbgmpeiicjlaaaGreatDoor

namespace Go.Proofs.YtmbgmpeiicjlaaaGreatDoor

open Go.RowKit

end Go.Proofs.YtmbgmpeiicjlaaaGreatDoor

namespace Go.Proofs.YtmbgmpeiicjlaaaGreatDoor

open Go.ChangeShapes Go.WideShapes Go.ChangeAt Go.RowKit Go.Deep Go.Joins

attribute [local go_sem] run_store_f

theorem own_floats {w : World} {b : Nat} {v : Value} {zs : List Nat} (h : Own w b 25 (Value.float .f32) v zs) : FloatsAt w v zs := by
  obtain ⟨a, cap, rfl, h2, h3, h4⟩ := h
  refine ⟨a, cap, rfl, h3, h2, fun i x hx => ?_⟩
  rcases h4 with ⟨rfl, rfl⟩ | ⟨g, cur, rfl, hg, hc, hk⟩
  · simp at hx
  · have hi := (List.getElem?_eq_some_iff.1 hx).1
    exact ⟨g, 0, rfl, by rw [Nat.zero_add, cell_of_row w _ _ _ _ _ hc, hk i hi, hx]; rfl⟩

/-- A list of numbers and a code, the list being the call's own. -/
def RetF6 (xs : List Nat) (c : Int) (w : World) (e : Ending) (w' : World) : Prop := (∃ v, e = .returned (.tuple #[v, .int .i64 c]) ∧ Own w' w.heap.size 25 (Value.float .f32) v xs) ∧ Below w.heap.size w w'

theorem grown_of_below {w w' : World} (h : Below w.heap.size w w') (row : Option Nat) : w.grownBy w' row := ⟨h.os, h.tape, h.output, h.size, fun k hk _ => h.block k hk⟩

theorem owns_below {W w1 : World} {base k : Nat} {e : TypeId} {v : Value} {xs : List Value} (h : W.ownsRow base e 1 v k xs) (hb : Below W.heap.size W w1) : w1.ownsRow base e 1 v k xs :=
  h.kept (grown_of_below hb none) (by cases v.ownBlock <;> simp)

theorem own_of_row {α : Type} {W : World} {base : Nat} {e : TypeId} {mk : α → Value} {v : Value} {xs : List α} (h : W.ownsRow base e 1 v xs.length (xs.map mk)) (_ : xs.length ≤ maxLen) : Own W base e mk v xs := by
  rcases h.2 with ⟨rfl, hz⟩ | ⟨g, cap, cur, rfl, hbg, hg, hnc, hcm, hsz, htk⟩
  · exact ⟨none, 0, by rw [hz], Nat.zero_le _, by omega, .inl ⟨rfl, List.eq_nil_of_length_eq_zero hz⟩⟩
  · refine ⟨_, cap, rfl, hcm, hnc, .inr ⟨g, cur, rfl, hbg, hg, fun k hk => ?_⟩⟩
    have h1 : (cur.toList.take (xs.length * 1))[k]? = cur[k]? := by
      rw [List.getElem?_take_of_lt (by omega), Array.getElem?_toList]
    rw [← h1, htk, List.getElem?_map]

theorem row_base {W : World} {base k : Nat} {e : TypeId} {v : Value} {xs : List Value} (h : W.ownsRow base e 1 v k xs) : ∀ j, v.ownBlock = some j → base ≤ j := fun j e => (h.lt j e).1

end Go.Proofs.YtmbgmpeiicjlaaaGreatDoor

namespace Go.Proofs.YtmbgmpeiicjlaaaGreatDoor

open Go.ChangeShapes Go.WideShapes Go.ChangeAt Go.RowKit Go.Deep Go.Joins

attribute [local go_sem] run_store_f

def codeY (okb : Bool) (ws : List Su) (fine : Bool) : Int := if (okb && ws.all okSu) = false then 1 else if inI 1 12 (ws.length : Int) = false then 3 else if fine = false then 2 else 0

theorem codeY_ok {okb : Bool} {ws : List Su} {fine : Bool} (h : codeY okb ws fine = 0) : okb = true ∧ ws.all okSu = true ∧ (1 ≤ ws.length ∧ ws.length ≤ 12) ∧ fine = true := by
  unfold codeY at h
  cases hk : okb && ws.all okSu with
  | false => rw [hk, if_pos rfl] at h; cases h
  | true =>
    rw [hk, if_neg (by decide)] at h
    cases hl : inI 1 12 (ws.length : Int) with
    | false => rw [hl, if_pos rfl] at h; cases h
    | true =>
      rw [hl, if_neg (by decide)] at h
      cases fine with
      | false => cases h
      | true =>
        rw [Bool.and_eq_true] at hk
        have := inI_get hl
        exact ⟨hk.1, hk.2, ⟨by omega, by omega⟩, rfl⟩

def yrRf (c : Int) : Rf := if c = 0 then .non else .call c

set_option maxRecDepth 100000 in
set_option maxHeartbeats 2000000 in
theorem checkYear_b (n : Int) (wd gp : Nat) (t : Int) (sh : Nat) (T0 : -32768 ≤ t) (T1 : t ≤ 32767) (sv : Value) (ws : List Su) (hwf : ∀ x ∈ ws, SuWf x) (fine : Bool) (hk : okBl n wd gp t sh = false) (w : World) (hz : SunsAt w sv ws) :
    Calls Tryz.prog 46 #[.agg (blindC n wd gp t sh), sv, .bool fine] w fun e w' => e = .returned (.iface 104 (.agg #[.int .i64 1])) ∧ Below w.heap.size w w' := by
  have HV := Lib.hid (fun w => ValidBlind_any n wd gp t sh T0 T1 w)
  rw [hk] at HV
  have HF := Lib.hid (fun W hz => containsSu_any sv ws hwf W hz)
  have HZ := Lib.hid hz
  obtain ⟨a, cap, rfl, hl1, hl2, _⟩ := hz
  unfold maxLen at hl2
  generalize hn : ws.length = n' at *
  clear hn hwf hk T0 T1
  go_enter Tryz.func46, Tryz.ntmps46
  go_upto_region 1 with (fail)
  refine abs_world (fun W => Below w.heap.size w W ∧ W.heap[w.heap.size]? = some (.cells (blindC n wd gp t sh) 28 (0, 0))) ⟨(Below.refl _ _).alloc (Nat.le_refl _) _, heap_alloc_new _ _⟩ ?_
  rintro W ⟨hb, h0⟩
  have H0 := Lib.hid h0
  clear h0
  go_wp2_with (first | (refine wpList_load_part rfl 28 _ rfl w.heap.size 0 5 rfl 28 (blindC n wd gp t sh) (0, 0) _ H0.out Tryz.underlying28 rfl info_blind (blind_fits _ _ _ _ _) _ (blind_all _ _ _ _ _) ?_) | (go_at_call 61; refine (HV.out _).mono ?_; rintro e W1 ⟨rfl, hb1⟩; replace H0 := Lib.hid (below_row hb1 H0.out); replace hb := hb.trans (hb1.mono hb.size); clear hb1) | (go_at_call 75; refine (HF.out _ (suns_below HZ.out hb)).mono ?_; rintro e W1 ⟨rfl, hb1⟩; replace hb := hb.trans (hb1.mono hb.size); clear hb1))
  go_ret
  exact ⟨rfl, hb⟩

set_option maxRecDepth 100000 in
set_option maxHeartbeats 2000000 in
theorem checkYear_a (n : Int) (wd gp : Nat) (t : Int) (sh : Nat) (T0 : -32768 ≤ t) (T1 : t ≤ 32767) (sv : Value) (ws : List Su) (hwf : ∀ x ∈ ws, SuWf x) (fine : Bool) (hk : okBl n wd gp t sh = true) (ha : ws.all okSu = false) (w : World) (hz : SunsAt w sv ws) :
    Calls Tryz.prog 46 #[.agg (blindC n wd gp t sh), sv, .bool fine] w fun e w' => e = .returned (.iface 104 (.agg #[.int .i64 1])) ∧ Below w.heap.size w w' := by
  have HV := Lib.hid (fun w => ValidBlind_any n wd gp t sh T0 T1 w)
  rw [hk] at HV
  have HF := Lib.hid (fun W hz => containsSu_any sv ws hwf W hz)
  rw [ha] at HF
  have HZ := Lib.hid hz
  obtain ⟨a, cap, rfl, hl1, hl2, _⟩ := hz
  unfold maxLen at hl2
  generalize hn : ws.length = n' at *
  clear hn hwf hk T0 T1 ha
  go_enter Tryz.func46, Tryz.ntmps46
  go_upto_region 1 with (fail)
  refine abs_world (fun W => Below w.heap.size w W ∧ W.heap[w.heap.size]? = some (.cells (blindC n wd gp t sh) 28 (0, 0))) ⟨(Below.refl _ _).alloc (Nat.le_refl _) _, heap_alloc_new _ _⟩ ?_
  rintro W ⟨hb, h0⟩
  have H0 := Lib.hid h0
  clear h0
  go_wp2_with (first | (refine wpList_load_part rfl 28 _ rfl w.heap.size 0 5 rfl 28 (blindC n wd gp t sh) (0, 0) _ H0.out Tryz.underlying28 rfl info_blind (blind_fits _ _ _ _ _) _ (blind_all _ _ _ _ _) ?_) | (go_at_call 61; refine (HV.out _).mono ?_; rintro e W1 ⟨rfl, hb1⟩; replace H0 := Lib.hid (below_row hb1 H0.out); replace hb := hb.trans (hb1.mono hb.size); clear hb1) | (go_at_call 75; refine (HF.out _ (suns_below HZ.out hb)).mono ?_; rintro e W1 ⟨rfl, hb1⟩; replace hb := hb.trans (hb1.mono hb.size); clear hb1))
  go_ret
  exact ⟨rfl, hb⟩

set_option maxRecDepth 100000 in
set_option maxHeartbeats 2000000 in
theorem checkYear_s (n : Int) (wd gp : Nat) (t : Int) (sh : Nat) (T0 : -32768 ≤ t) (T1 : t ≤ 32767) (sv : Value) (ws : List Su) (hwf : ∀ x ∈ ws, SuWf x) (fine : Bool) (hk : okBl n wd gp t sh = true) (ha : ws.all okSu = true) (hl : (ws.length : Int) < 1) (w : World) (hz : SunsAt w sv ws) :
    Calls Tryz.prog 46 #[.agg (blindC n wd gp t sh), sv, .bool fine] w fun e w' => e = .returned (.iface 104 (.agg #[.int .i64 3])) ∧ Below w.heap.size w w' := by
  have HV := Lib.hid (fun w => ValidBlind_any n wd gp t sh T0 T1 w)
  rw [hk] at HV
  have HF := Lib.hid (fun W hz => containsSu_any sv ws hwf W hz)
  rw [ha] at HF
  have HZ := Lib.hid hz
  obtain ⟨a, cap, rfl, hl1, hl2, _⟩ := hz
  unfold maxLen at hl2
  generalize hn : ws.length = n' at *
  clear hn hwf hk T0 T1 ha
  go_enter Tryz.func46, Tryz.ntmps46
  go_upto_region 1 with (fail)
  refine abs_world (fun W => Below w.heap.size w W ∧ W.heap[w.heap.size]? = some (.cells (blindC n wd gp t sh) 28 (0, 0))) ⟨(Below.refl _ _).alloc (Nat.le_refl _) _, heap_alloc_new _ _⟩ ?_
  rintro W ⟨hb, h0⟩
  have H0 := Lib.hid h0
  clear h0
  go_wp2_with (first | (refine wpList_load_part rfl 28 _ rfl w.heap.size 0 5 rfl 28 (blindC n wd gp t sh) (0, 0) _ H0.out Tryz.underlying28 rfl info_blind (blind_fits _ _ _ _ _) _ (blind_all _ _ _ _ _) ?_) | (go_at_call 61; refine (HV.out _).mono ?_; rintro e W1 ⟨rfl, hb1⟩; replace H0 := Lib.hid (below_row hb1 H0.out); replace hb := hb.trans (hb1.mono hb.size); clear hb1) | (go_at_call 75; refine (HF.out _ (suns_below HZ.out hb)).mono ?_; rintro e W1 ⟨rfl, hb1⟩; replace hb := hb.trans (hb1.mono hb.size); clear hb1))
  go_ret
  exact ⟨rfl, hb⟩

set_option maxRecDepth 100000 in
set_option maxHeartbeats 2000000 in
theorem checkYear_l (n : Int) (wd gp : Nat) (t : Int) (sh : Nat) (T0 : -32768 ≤ t) (T1 : t ≤ 32767) (sv : Value) (ws : List Su) (hwf : ∀ x ∈ ws, SuWf x) (fine : Bool) (hk : okBl n wd gp t sh = true) (ha : ws.all okSu = true) (hl : 12 < (ws.length : Int)) (w : World) (hz : SunsAt w sv ws) :
    Calls Tryz.prog 46 #[.agg (blindC n wd gp t sh), sv, .bool fine] w fun e w' => e = .returned (.iface 104 (.agg #[.int .i64 3])) ∧ Below w.heap.size w w' := by
  have HV := Lib.hid (fun w => ValidBlind_any n wd gp t sh T0 T1 w)
  rw [hk] at HV
  have HF := Lib.hid (fun W hz => containsSu_any sv ws hwf W hz)
  rw [ha] at HF
  have HZ := Lib.hid hz
  obtain ⟨a, cap, rfl, hl1, hl2, _⟩ := hz
  unfold maxLen at hl2
  generalize hn : ws.length = n' at *
  have hl' : ¬ (n' : Int) < 1 := by omega
  clear hn hwf hk T0 T1 ha
  go_enter Tryz.func46, Tryz.ntmps46
  go_upto_region 1 with (fail)
  refine abs_world (fun W => Below w.heap.size w W ∧ W.heap[w.heap.size]? = some (.cells (blindC n wd gp t sh) 28 (0, 0))) ⟨(Below.refl _ _).alloc (Nat.le_refl _) _, heap_alloc_new _ _⟩ ?_
  rintro W ⟨hb, h0⟩
  have H0 := Lib.hid h0
  clear h0
  go_wp2_with (first | (refine wpList_load_part rfl 28 _ rfl w.heap.size 0 5 rfl 28 (blindC n wd gp t sh) (0, 0) _ H0.out Tryz.underlying28 rfl info_blind (blind_fits _ _ _ _ _) _ (blind_all _ _ _ _ _) ?_) | (go_at_call 61; refine (HV.out _).mono ?_; rintro e W1 ⟨rfl, hb1⟩; replace H0 := Lib.hid (below_row hb1 H0.out); replace hb := hb.trans (hb1.mono hb.size); clear hb1) | (go_at_call 75; refine (HF.out _ (suns_below HZ.out hb)).mono ?_; rintro e W1 ⟨rfl, hb1⟩; replace hb := hb.trans (hb1.mono hb.size); clear hb1))
  go_ret
  exact ⟨rfl, hb⟩

set_option maxRecDepth 100000 in
set_option maxHeartbeats 2000000 in
theorem checkYear_f (n : Int) (wd gp : Nat) (t : Int) (sh : Nat) (T0 : -32768 ≤ t) (T1 : t ≤ 32767) (sv : Value) (ws : List Su) (hwf : ∀ x ∈ ws, SuWf x) (fine : Bool) (hk : okBl n wd gp t sh = true) (ha : ws.all okSu = true) (hl : 1 ≤ ws.length ∧ ws.length ≤ 12) (hf : fine = false) (w : World) (hz : SunsAt w sv ws) :
    Calls Tryz.prog 46 #[.agg (blindC n wd gp t sh), sv, .bool fine] w fun e w' => e = .returned (.iface 104 (.agg #[.int .i64 2])) ∧ Below w.heap.size w w' := by
  have HV := Lib.hid (fun w => ValidBlind_any n wd gp t sh T0 T1 w)
  rw [hk] at HV
  have HF := Lib.hid (fun W hz => containsSu_any sv ws hwf W hz)
  rw [ha] at HF
  have HZ := Lib.hid hz
  obtain ⟨a, cap, rfl, hl1, hl2, _⟩ := hz
  unfold maxLen at hl2
  generalize hn : ws.length = n' at *
  have hl' : ¬ (n' : Int) < 1 := by omega
  have hl2 : ¬ 12 < (n' : Int) := by omega
  clear hl
  subst hf
  clear hn hwf hk T0 T1 ha
  go_enter Tryz.func46, Tryz.ntmps46
  go_upto_region 1 with (fail)
  refine abs_world (fun W => Below w.heap.size w W ∧ W.heap[w.heap.size]? = some (.cells (blindC n wd gp t sh) 28 (0, 0))) ⟨(Below.refl _ _).alloc (Nat.le_refl _) _, heap_alloc_new _ _⟩ ?_
  rintro W ⟨hb, h0⟩
  have H0 := Lib.hid h0
  clear h0
  go_wp2_with (first | (refine wpList_load_part rfl 28 _ rfl w.heap.size 0 5 rfl 28 (blindC n wd gp t sh) (0, 0) _ H0.out Tryz.underlying28 rfl info_blind (blind_fits _ _ _ _ _) _ (blind_all _ _ _ _ _) ?_) | (go_at_call 61; refine (HV.out _).mono ?_; rintro e W1 ⟨rfl, hb1⟩; replace H0 := Lib.hid (below_row hb1 H0.out); replace hb := hb.trans (hb1.mono hb.size); clear hb1) | (go_at_call 75; refine (HF.out _ (suns_below HZ.out hb)).mono ?_; rintro e W1 ⟨rfl, hb1⟩; replace hb := hb.trans (hb1.mono hb.size); clear hb1))
  go_ret
  exact ⟨rfl, hb⟩

set_option maxRecDepth 100000 in
set_option maxHeartbeats 2000000 in
theorem checkYear_y (n : Int) (wd gp : Nat) (t : Int) (sh : Nat) (T0 : -32768 ≤ t) (T1 : t ≤ 32767) (sv : Value) (ws : List Su) (hwf : ∀ x ∈ ws, SuWf x) (fine : Bool) (hk : okBl n wd gp t sh = true) (ha : ws.all okSu = true) (hl : 1 ≤ ws.length ∧ ws.length ≤ 12) (hf : fine = true) (w : World) (hz : SunsAt w sv ws) :
    Calls Tryz.prog 46 #[.agg (blindC n wd gp t sh), sv, .bool fine] w fun e w' => e = .returned .nilIface ∧ Below w.heap.size w w' := by
  have HV := Lib.hid (fun w => ValidBlind_any n wd gp t sh T0 T1 w)
  rw [hk] at HV
  have HF := Lib.hid (fun W hz => containsSu_any sv ws hwf W hz)
  rw [ha] at HF
  have HZ := Lib.hid hz
  obtain ⟨a, cap, rfl, hl1, hl2, _⟩ := hz
  unfold maxLen at hl2
  generalize hn : ws.length = n' at *
  have hl' : ¬ (n' : Int) < 1 := by omega
  have hl2 : ¬ 12 < (n' : Int) := by omega
  clear hl
  subst hf
  clear hn hwf hk T0 T1 ha
  go_enter Tryz.func46, Tryz.ntmps46
  go_upto_region 1 with (fail)
  refine abs_world (fun W => Below w.heap.size w W ∧ W.heap[w.heap.size]? = some (.cells (blindC n wd gp t sh) 28 (0, 0))) ⟨(Below.refl _ _).alloc (Nat.le_refl _) _, heap_alloc_new _ _⟩ ?_
  rintro W ⟨hb, h0⟩
  have H0 := Lib.hid h0
  clear h0
  go_wp2_with (first | (refine wpList_load_part rfl 28 _ rfl w.heap.size 0 5 rfl 28 (blindC n wd gp t sh) (0, 0) _ H0.out Tryz.underlying28 rfl info_blind (blind_fits _ _ _ _ _) _ (blind_all _ _ _ _ _) ?_) | (go_at_call 61; refine (HV.out _).mono ?_; rintro e W1 ⟨rfl, hb1⟩; replace H0 := Lib.hid (below_row hb1 H0.out); replace hb := hb.trans (hb1.mono hb.size); clear hb1) | (go_at_call 75; refine (HF.out _ (suns_below HZ.out hb)).mono ?_; rintro e W1 ⟨rfl, hb1⟩; replace hb := hb.trans (hb1.mono hb.size); clear hb1))
  go_ret
  exact ⟨rfl, hb⟩

theorem checkYear_any (n : Int) (wd gp : Nat) (t : Int) (sh : Nat) (T0 : -32768 ≤ t) (T1 : t ≤ 32767) (sv : Value) (ws : List Su) (hwf : ∀ x ∈ ws, SuWf x) (fine : Bool) (w : World) (hz : SunsAt w sv ws) :
    Calls Tryz.prog 46 #[.agg (blindC n wd gp t sh), sv, .bool fine] w fun e w' => e = .returned (rfV (yrRf (codeY (okBl n wd gp t sh) ws fine))) ∧ Below w.heap.size w w' := by
  unfold codeY
  cases hk : okBl n wd gp t sh with
  | false => exact checkYear_b n wd gp t sh T0 T1 sv ws hwf fine hk w hz
  | true =>
    cases ha : ws.all okSu with
    | false => exact checkYear_a n wd gp t sh T0 T1 sv ws hwf fine hk ha w hz
    | true =>
      cases hl : inI 1 12 (ws.length : Int) with
      | false =>
        have hl' : (ws.length : Int) < 1 ∨ 12 < (ws.length : Int) := by
          unfold inI at hl
          simp at hl
          omega
        rcases hl' with h | h
        · exact checkYear_s n wd gp t sh T0 T1 sv ws hwf fine hk ha h w hz
        · exact checkYear_l n wd gp t sh T0 T1 sv ws hwf fine hk ha h w hz
      | true =>
        have hl' := inI_get hl
        have hl2 : 1 ≤ ws.length ∧ ws.length ≤ 12 := by omega
        cases fine with
        | false => exact checkYear_f n wd gp t sh T0 T1 sv ws hwf false hk ha hl2 rfl w hz
        | true => exact checkYear_y n wd gp t sh T0 T1 sv ws hwf true hk ha hl2 rfl w hz

set_option maxRecDepth 100000 in
set_option maxHeartbeats 4000000 in
theorem yearLight_any (n : Int) (wd gp : Nat) (t : Int) (sh : Nat) (OK : BlOk n wd gp t sh) (sv : Value) (ws : List Su) (hwf : ∀ x ∈ ws, SuWf x) (hok : ∀ x ∈ ws, okSu x = true) (hlen : ws.length ≤ 12) (fc : Int) (h3 : inF fc = true) (w : World) (hz : SunsAt w sv ws) :
    Calls Tryz.prog 48 #[.agg (blindC n wd gp t sh), sv, .int .i64 fc] w fun e w' => (∃ v, e = .returned v ∧ Own w' w.heap.size 25 (Value.float .f32) v (ws.map (dyL wd gp t sh fc))) ∧ Below w.heap.size w w' := by
  have HP := Lib.hid (fun w => passer_any n wd gp t sh OK w)
  have HX : Hid (∀ x ∈ ws, ∀ (p1 p2 : Nat) (W : World), W.heap[p1]? = some (.cells (blindC n wd gp t sh) 28 (0, 0)) → W.heap[p2]? = some (.cells #[.float .f32 (opnB wd gp t 1)] 25 (0, 0)) →
      Calls Tryz.prog 56 #[(.func (.func 81) #[] #[.pointer (some ⟨p1, 0, none⟩), .pointer (some ⟨p2, 0, none⟩)]), .agg (suC x), .int .i64 fc] W fun e w' => e = .returned (.float .f32 (dyL wd gp t sh fc x)) ∧ Below W.heap.size W w') := fun x hx p1 p2 W c1 c2 => windowOver_is n wd gp t sh x.1 x.2 (hwf x hx).1 (hwf x hx).2.1 OK fc (hok x hx) h3 p1 p2 W c1 c2
  have HZ := Lib.hid hz
  have HS := Lib.hid (fun x hx => suC_size (hwf x hx))
  obtain ⟨a, cap, rfl, hl1, hl2, _⟩ := hz
  unfold maxLen at hl2
  generalize hn : ws.length = n' at *
  have HN := Lib.hid hn
  have hmk := fun w => make_floats n' (by omega) w
  generalize hd : dyL wd gp t sh fc = d at *
  clear hn hd OK hwf hok h3
  go_enter Tryz.func48, Tryz.ntmps48
  go_upto_region 1 with (fail)
  refine abs_world (fun W => Below w.heap.size w W ∧ W.heap[w.heap.size]? = some (.cells (blindC n wd gp t sh) 28 (0, 0))) ⟨(Below.refl _ _).alloc (Nat.le_refl _) _, heap_alloc_new _ _⟩ ?_
  rintro W ⟨hb, h0⟩
  have H0 := Lib.hid h0
  clear h0
  go_upto_region 2 with (first | (refine wpList_load_part rfl 28 _ rfl w.heap.size 0 5 rfl 28 (blindC n wd gp t sh) (0, 0) _ H0.out Tryz.underlying28 rfl info_blind (blind_fits _ _ _ _ _) _ (blind_all _ _ _ _ _) ?_) | (go_at_call 57; refine (HP.out _).mono ?_; rintro e W1 ⟨⟨v, rfl, p1, p2, rfl, c1, c2⟩, hb1⟩; replace hb := hb.trans (hb1.mono hb.size); clear hb1))
  have C1 := Lib.hid c1
  have C2 := Lib.hid c2
  have hws := hb.size
  clear c1 c2 H0 HP
  go_upto_region 3 with (fail)
  refine abs_code (fun V => V.heap[p1]? = some (.cells (blindC n wd gp t sh) 28 (0, 0)) ∧ V.heap[p2]? = some (.cells #[.float .f32 (opnB wd gp t 1)] 25 (0, 0)) ∧ (∃ cur : Array Value, V.heap[W1.heap.size]? = some (.cells cur 25 (0, 0)) ∧ cur.size = n') ∧ Below w.heap.size w V) ⟨below_row ((Below.refl W1.heap.size _).alloc (Nat.le_refl _) _) C1.out, below_row ((Below.refl W1.heap.size _).alloc (Nat.le_refl _) _) C2.out, ⟨_, heap_alloc_new _ _, size_madeCells _ _⟩, hb.alloc hb.size _⟩ ?_
  have hp1 := row_lt C1.out
  have hp2 := row_lt C2.out
  clear C1 C2 hb hmk
  generalize W1.heap.size = g at *
  rintro V ⟨c1, c2, ⟨cur0, hg0, hs0⟩, hbv⟩
  have C1 := Lib.hid c1
  have C2 := Lib.hid c2
  have HG0 := Lib.hid hg0
  clear c1 c2 hg0
  go_wp2
  go_loopw [18] (fun i wr => ∃ k : Nat, k ≤ n' ∧ i = .int .i64 k ∧ wr.heap[p1]? = some (.cells (blindC n wd gp t sh) 28 (0, 0)) ∧ wr.heap[p2]? = some (.cells #[.float .f32 (opnB wd gp t 1)] 25 (0, 0)) ∧ (∃ cur : Array Value, wr.heap[g]? = some (.cells cur 25 (0, 0)) ∧ cur.size = n' ∧ ∀ j x, j < k → ws[j]? = some x → cur[j]? = some (.float .f32 (d x))) ∧ Below w.heap.size w wr) (fun i _ => n' - (intOf i).toNat)
  case atStart => exact ⟨0, Nat.zero_le _, rfl, C1.out, C2.out, ⟨cur0, HG0.out, hs0, fun j x hj => by omega⟩, hbv⟩
  case round =>
    clear C1 C2 HG0 hbv
    obtain ⟨k, hk, rfl, c1, c2, ⟨cur, hg, hs, hp⟩, hb⟩ := hrel
    have C1 := Lib.hid c1
    have C2 := Lib.hid c2
    have HP := Lib.hid hp
    have HG := Lib.hid hg
    clear c1 c2 hp hg
    by_cases hlt : k < n'
    · have hx : ws[k]? = some (ws[k]'(by rw [HN.out]; exact hlt)) := List.getElem?_eq_getElem _
      obtain ⟨g0, o, rfl, hc⟩ := sun_at (suns_below HZ.out hb) hx
      have HC := Lib.hid hc
      have HM := List.mem_of_getElem? hx
      generalize (ws[k]'(by rw [HN.out]; exact hlt)) = x at *
      have HD := Lib.hid hx
      have HSZ := Lib.hid (HS.out x HM)
      have HXX := Lib.hid (HX.out x HM)
      have z1 : (k : Int) < (n' : Int) := by omega
      have z2 : (0 : Int) ≤ (k : Int) := by omega
      have hgl := row_lt HG.out
      clear hc hx HM
      go_upto_region 6 with (first | (refine wpList_load_cells rfl 46 _ rfl g0 (o + k * 48) 48 rfl _ Tryz.underlying46 rfl info_sun (suC x) HSZ.out HC.out ?_) | (refine wpList_store_part rfl 46 _ _ rfl _ 0 (suC x) rfl rfl 46 _ (heap_alloc_new _ _) (by rw [HSZ.out]; exact info_sun) (by rw [HSZ.out]; decide) (i16s_one _) ?_; rw [laid_allb _ _ (by rw [HSZ.out]; rfl)]))
      refine abs_code (fun U => U.heap[p1]? = some (.cells (blindC n wd gp t sh) 28 (0, 0)) ∧ U.heap[p2]? = some (.cells #[.float .f32 (opnB wd gp t 1)] 25 (0, 0)) ∧ U.heap[g]? = some (.cells cur 25 (0, 0)) ∧ U.heap[wr.heap.size]? = some (.cells (suC x) 46 (0, 0)) ∧ Below w.heap.size w U) ⟨(setRow_other _ _ _ _ (by have := row_lt C1.out; omega)).trans (below_row ((Below.refl wr.heap.size _).alloc (Nat.le_refl _) _) C1.out), (setRow_other _ _ _ _ (by have := row_lt C2.out; omega)).trans (below_row ((Below.refl wr.heap.size _).alloc (Nat.le_refl _) _) C2.out), (setRow_other _ _ _ _ (by omega)).trans (below_row ((Below.refl wr.heap.size _).alloc (Nat.le_refl _) _) HG.out), setRow_heap _ _ _ _ _ _ (heap_alloc_new _ _), below_setRow (hb.alloc hb.size _) hb.size _⟩ ?_
      have hgw := hb.size
      clear C1 C2 HG HC hb
      generalize wr.heap.size = tb at *
      rintro U ⟨c1, c2, hg, h1, hb⟩
      have C1 := Lib.hid c1
      have C2 := Lib.hid c2
      have HG := Lib.hid hg
      have H1 := Lib.hid h1
      clear c1 c2 hg h1
      have hcur : cur[k]? = some (cur[k]'(by omega)) := Array.getElem?_eq_getElem (by omega)
      go_wp2_with (first | (refine wpList_load_part rfl 46 _ rfl tb 0 48 rfl 46 (suC x) (0, 0) _ H1.out Tryz.underlying46 rfl info_sun (by rw [HSZ.out]; decide) (suC x) (by rw [Nat.zero_add, ← HSZ.out, Array.extract_size]) ?_) | (go_at_call 56; refine (HXX.out p1 p2 _ C1.out C2.out).mono ?_; rintro e W5 ⟨rfl, hb5⟩; replace C1 := Lib.hid (below_row hb5 C1.out); replace C2 := Lib.hid (below_row hb5 C2.out); replace HG := Lib.hid (below_row hb5 HG.out); replace hb := hb.trans (hb5.mono hb.size); clear hb5 H1; have q1 := cell_k HG.out hcur; have q2 := frozen_of_row W5 g k _ _ HG.out))
      clear q1 q2 hcur
      go_roundw
      case rel =>
        refine ⟨k + 1, by omega, by go_num, (heap_setCell_other _ _ _ _ (by simp; omega)).trans C1.out, (heap_setCell_other _ _ _ _ (by simp; omega)).trans C2.out, ⟨cur.setIfInBounds k (.float .f32 (d x)), heap_setCell_same _ _ _ _ _ _ HG.out, by simpa using hs, fun j y hj hy => ?_⟩, hb.setCell (p := ⟨g, k, none⟩) (by simp; omega) _⟩
        rw [Array.getElem?_setIfInBounds]
        by_cases e : k = j
        · subst e
          rw [HD.out] at hy
          obtain rfl := Option.some.inj hy
          rw [if_pos rfl, if_pos (by omega)]
        · rw [if_neg e]; exact HP.out j y (by omega) hy
      case measure => simp [intOf]; omega
    · obtain rfl : k = n' := by omega
      have HR : Hid (Own wr w.heap.size 25 (Value.float .f32) (.slice (some ⟨g, 0, none⟩) k k) (ws.map d)) := by
        refine ⟨_, k, by rw [List.length_map, HN.out], by unfold maxLen; omega, by rw [List.length_map, HN.out]; exact Nat.le_refl _, .inr ⟨g, cur, rfl, hws, HG.out, fun j hj => ?_⟩⟩
        rw [List.length_map] at hj
        rw [List.getElem?_map, List.getElem?_eq_getElem hj]
        exact HP.out j _ (by have := HN.out; omega) (List.getElem?_eq_getElem hj)
      clear C1 C2 HP HG
      go_wp2
      go_ret
      exact ⟨⟨_, rfl, HR.out⟩, hb⟩

end Go.Proofs.YtmbgmpeiicjlaaaGreatDoor

namespace Go.Proofs.YtmbgmpeiicjlaaaGreatDoor

open Go.RowKit

def gtY (x y : Nat) : Bool := FloatKind.f32.format.order x y == some .gt

def bstI (zs : List Nat) : Nat → Nat
  | 0 => 0
  | k + 1 => if gtY (zs.getD k 0) (zs.getD (bstI zs k) 0) then k else bstI zs k

theorem bstI_lt (zs : List Nat) {n : Nat} (hn : 0 < n) : ∀ k, k ≤ n → bstI zs k < n
  | 0, _ => hn
  | k + 1, h => by
    rw [bstI]
    split
    · omega
    · exact bstI_lt zs hn k (by omega)

theorem bstI_up {zs : List Nat} {k : Nat} (h : gtY (zs.getD k 0) (zs.getD (bstI zs k) 0) = true) : bstI zs (k + 1) = k := by rw [bstI, if_pos h]

theorem bstI_stay {zs : List Nat} {k : Nat} (h : gtY (zs.getD k 0) (zs.getD (bstI zs k) 0) = false) : bstI zs (k + 1) = bstI zs k := by rw [bstI, if_neg (by rw [h]; decide)]

theorem bstI_one (zs : List Nat) : bstI zs 1 = 0 := by
  rw [bstI]
  split <;> rfl

/-- A sum of numbers from the first one on. -/
def sumL (zs : List Nat) (k : Nat) : Nat := sumTo (fun i => zs.getD i 0) k

theorem sumL_pos {zs : List Nat} (h : ∀ z ∈ zs, pos32 z = true) {k : Nat} (hk : k ≤ zs.length) : pos32 (sumL zs k) = true := by
  refine sumTo_pos _ zs.length (fun i hi => ?_) k hk
  have e : zs[i]? = some zs[i] := List.getElem?_eq_getElem hi
  rw [List.getD, e]
  exact h _ (List.getElem_mem _)

theorem sumL_step {zs : List Nat} (h : ∀ z ∈ zs, pos32 z = true) {k x : Nat} (hx : zs[k]? = some x) : floatBits .add .f32 (sumL zs k) x = some (sumL zs (k + 1)) := by
  have hk := (List.getElem?_eq_some_iff.1 hx).1
  have e : sumL zs (k + 1) = fadd (sumL zs k) x := by
    unfold sumL
    rw [sumTo_succ, List.getD, hx]
    rfl
  rw [e]
  exact (add_ok (sumL_pos h (by omega)) (h x (List.mem_of_getElem? hx))).1

theorem pos_above {x : Nat} (h : pos32 x = true) : FloatKind.f32.format.order x 3212836864 = some .gt := by
  show (Ieee.single.read x).order (Ieee.single.read 3212836864) = some .gt
  rw [show Ieee.single.read 3212836864 = .number true 8388608 (-23) by decide +kernel]
  unfold pos32 at h
  cases hr : Ieee.single.read x with
  | nan s f => rw [hr] at h; cases h
  | infinity s =>
    rw [hr] at h
    cases s
    · rfl
    · cases h
  | number s m e =>
    rw [hr] at h
    cases s
    · have h1 : 0 ≤ Ieee.signed false m (e - min e (-23)).toNat := signed_nonneg _ _
      have h2 : Ieee.signed true 8388608 (-23 - min e (-23)).toNat < 0 := by
        unfold Ieee.signed
        rw [if_pos rfl]
        have h3 : 0 < 8388608 <<< (-23 - min e (-23)).toNat := by
          rw [Nat.shiftLeft_eq]
          exact Nat.mul_pos (by decide) (Nat.two_pow_pos _)
        omega
      show some (compare (Ieee.signed false m (e - min e (-23)).toNat) (Ieee.signed true 8388608 (-23 - min e (-23)).toNat)) = some .gt
      simp only [compare, compareOfLessAndEq]
      rw [if_neg (by omega), if_neg (by omega)]
    · cases h

end Go.Proofs.YtmbgmpeiicjlaaaGreatDoor
