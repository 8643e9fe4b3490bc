/-
  The code of a refusal.
-/
import Derived.Test.YtmniodfdoidffaaGreatDoorAsE
import Derived.Test.YtmniodfdoidffaaGreatDoorSun
namespace Go.Proofs.YtmniodfdoidffaaGreatDoor
open Go.ChangeShapes Go.WideShapes Go.ChangeAt Go.RowKit

/-- A refusal: none, of a call, of an hour, of a floor. -/
inductive Rf where
  | non
  | call (c : Int)
  | hour (h : Int)
  | floor (cs : Array Value)

def rfV : Rf → Value
  | .non => .nilIface
  | .call c => .iface 84 (.agg #[.int .i64 c])
  | .hour h => .iface 86 (.agg #[.int .i64 h])
  | .floor cs => .iface 90 (.agg cs)

def rfC : Rf → Int
  | .non => 0
  | .call c => c
  | .hour _ => 6
  | .floor _ => 4

def rfOk : Rf → Prop
  | .floor cs => cs.size = 24 ∧ ∀ v ∈ cs, v.oneCell' = true
  | _ => True

def zerC : Array Value := #[.float .f32 0, .float .f32 0, .float .f32 0, .float .f32 0, .float .f32 0, .float .f32 0, .float .f32 0, .float .f32 0, .float .f32 0, .float .f32 0, .float .f32 0, .float .f32 0, .float .f32 0, .float .f32 0, .float .f32 0, .float .f32 0, .float .f32 0, .float .f32 0, .float .f32 0, .float .f32 0, .float .f32 0, .float .f32 0, .float .f32 0, .float .f32 0]

theorem one_i64 (c : Int) : ∀ v ∈ (#[.int .i64 c] : Array Value), v.oneCell' = true := by
  intro v hv
  simp only [List.mem_toArray, List.mem_cons, List.not_mem_nil, or_false] at hv
  subst hv; rfl

theorem three_newD (w : World) (o1 o2 o3 : Obj) : (((w.alloc o1).alloc o2).alloc o3).heap[w.heap.size]? = some o1 ∧ (((w.alloc o1).alloc o2).alloc o3).heap[w.heap.size + 1]? = some o2 ∧ (((w.alloc o1).alloc o2).alloc o3).heap[w.heap.size + 1 + 1]? = some o3 ∧ Below w.heap.size w (((w.alloc o1).alloc o2).alloc o3) := by
  have e : ∀ (w : World) (o : Obj) (i : Nat), (w.alloc o).heap[i]? = if i = w.heap.size then some o else w.heap[i]? := fun w o i => by
    show (w.heap.push o)[i]? = _
    exact Array.getElem?_push
  refine ⟨?_, ?_, ?_, (((Below.refl _ _).alloc (Nat.le_refl _) _).alloc (by simp) _).alloc (by simp; omega) _⟩
  all_goals simp only [e, World.size_alloc]
  · rw [if_neg (by omega), if_neg (by omega), if_true]
  · rw [if_neg (by omega), if_true]
  · rw [if_true]

set_option maxRecDepth 100000 in
set_option maxHeartbeats 4000000 in
theorem codeD_non (w : World) : Calls Tryz.prog 23 #[.nilIface] w fun e w' => e = .returned (.int .i64 0) ∧ Below w.heap.size w w' := by
  go_enter Tryz.func23, Tryz.ntmps23
  go_wp2_with (go_at_call 40; refine (as_nil _ _).mono ?_; rintro e w' ⟨rfl, rfl⟩)
  go_ret
  exact ⟨rfl, (three_newD _ _ _ _).2.2.2⟩

set_option maxRecDepth 100000 in
set_option maxHeartbeats 4000000 in
theorem codeD_call (c : Int) (w : World) (hE : ErrT w) : Calls Tryz.prog 23 #[.iface 84 (.agg #[.int .i64 c])] w fun e w' => e = .returned (.int .i64 c) ∧ Below w.heap.size w w' := by
  go_enter Tryz.func23, Tryz.ntmps23
  go_upto_region 4 with (fail)
  refine abs_code (fun W => W.heap[w.heap.size]? = some (.cells #[.int .i64 0] 84 (0, 0)) ∧ W.heap[w.heap.size + 1]? = some (.cells #[.int .i64 0] 86 (0, 0)) ∧ W.heap[w.heap.size + 1 + 1]? = some (.cells zerC 90 (0, 0)) ∧ Below w.heap.size w W) ⟨(three_newD _ _ _ _).1, (three_newD _ _ _ _).2.1, (three_newD _ _ _ _).2.2.1, (three_newD _ _ _ _).2.2.2⟩ ?_
  rintro W ⟨h0, h1, h2, hb⟩
  have hs1 : w.heap.size ≤ w.heap.size + 1 := by omega
  have hs2 : w.heap.size ≤ w.heap.size + 1 + 1 := by omega
  generalize w.heap.size + 1 + 1 = b2 at *
  generalize w.heap.size + 1 = b1 at *
  have HE := Lib.hid (errT_below hE hb)
  have H0 := Lib.hid h0
  have H1 := Lib.hid h1
  have H2 := Lib.hid h2
  clear h0 h1 h2 hE
  go_upto_region 5 with (go_at_call 40; refine (as_Call_Call _ _ _ _ HE.out H0.out rfl rfl (one_i64 c)).mono ?_; rintro e W9 ⟨rfl, U, hU, hrow, rfl⟩; replace hb := hb.trans (hU.mono hb.size); clear hU)
  have q : (U.setRow w.heap.size #[.int .i64 c]).cell? ⟨w.heap.size, 0, none⟩ = some (.int .i64 c) := by rw [cell_of_row _ _ _ _ _ _ (setRow_heap _ _ _ _ _ _ hrow)]; rfl
  go_wp2
  go_ret
  exact ⟨rfl, below_setRow hb (Nat.le_refl _) _⟩

set_option maxRecDepth 100000 in
set_option maxHeartbeats 4000000 in
theorem codeD_floor (cs : Array Value) (hc : cs.size = 24) (h1 : ∀ v ∈ cs, v.oneCell' = true) (w : World) (hE : ErrT w) : Calls Tryz.prog 23 #[.iface 90 (.agg cs)] w fun e w' => e = .returned (.int .i64 4) ∧ Below w.heap.size w w' := by
  have HC := Lib.hid (And.intro hc h1)
  clear hc h1
  go_enter Tryz.func23, Tryz.ntmps23
  go_upto_region 4 with (fail)
  refine abs_code (fun W => W.heap[w.heap.size]? = some (.cells #[.int .i64 0] 84 (0, 0)) ∧ W.heap[w.heap.size + 1]? = some (.cells #[.int .i64 0] 86 (0, 0)) ∧ W.heap[w.heap.size + 1 + 1]? = some (.cells zerC 90 (0, 0)) ∧ Below w.heap.size w W) ⟨(three_newD _ _ _ _).1, (three_newD _ _ _ _).2.1, (three_newD _ _ _ _).2.2.1, (three_newD _ _ _ _).2.2.2⟩ ?_
  rintro W ⟨h0, h1, h2, hb⟩
  have hs1 : w.heap.size ≤ w.heap.size + 1 := by omega
  have hs2 : w.heap.size ≤ w.heap.size + 1 + 1 := by omega
  generalize w.heap.size + 1 + 1 = b2 at *
  generalize w.heap.size + 1 = b1 at *
  have HE := Lib.hid (errT_below hE hb)
  have H0 := Lib.hid h0
  have H1 := Lib.hid h1
  have H2 := Lib.hid h2
  clear h0 h1 h2 hE
  go_upto_region 6 with (go_at_call 40; refine (as_Call_Floor _ _ _ HE.out).mono ?_; rintro e W1 ⟨rfl, hb1⟩; replace HE := Lib.hid (errT_below HE.out hb1); replace H0 := Lib.hid (below_row hb1 H0.out); replace H1 := Lib.hid (below_row hb1 H1.out); replace H2 := Lib.hid (below_row hb1 H2.out); replace hb := hb.trans (hb1.mono hb.size); clear hb1)
  go_wp2_with (go_at_call 40; refine (as_Floor_Floor _ _ _ _ HE.out H2.out HC.out.1 rfl HC.out.2).mono ?_; rintro e W9 ⟨rfl, U, hU, hrow, rfl⟩; replace hb := hb.trans (hU.mono hb.size); clear hU)
  go_ret
  exact ⟨rfl, below_setRow hb hs2 _⟩

set_option maxRecDepth 100000 in
set_option maxHeartbeats 4000000 in
theorem codeD_hour (h : Int) (w : World) (hE : ErrT w) : Calls Tryz.prog 23 #[.iface 86 (.agg #[.int .i64 h])] w fun e w' => e = .returned (.int .i64 6) ∧ Below w.heap.size w w' := by
  go_enter Tryz.func23, Tryz.ntmps23
  go_upto_region 4 with (fail)
  refine abs_code (fun W => W.heap[w.heap.size]? = some (.cells #[.int .i64 0] 84 (0, 0)) ∧ W.heap[w.heap.size + 1]? = some (.cells #[.int .i64 0] 86 (0, 0)) ∧ W.heap[w.heap.size + 1 + 1]? = some (.cells zerC 90 (0, 0)) ∧ Below w.heap.size w W) ⟨(three_newD _ _ _ _).1, (three_newD _ _ _ _).2.1, (three_newD _ _ _ _).2.2.1, (three_newD _ _ _ _).2.2.2⟩ ?_
  rintro W ⟨h0, h1, h2, hb⟩
  have hs1 : w.heap.size ≤ w.heap.size + 1 := by omega
  have hs2 : w.heap.size ≤ w.heap.size + 1 + 1 := by omega
  generalize w.heap.size + 1 + 1 = b2 at *
  generalize w.heap.size + 1 = b1 at *
  have HE := Lib.hid (errT_below hE hb)
  have H0 := Lib.hid h0
  have H1 := Lib.hid h1
  have H2 := Lib.hid h2
  clear h0 h1 h2 hE
  go_upto_region 6 with (go_at_call 40; refine (as_Call_Hour _ _ _ HE.out).mono ?_; rintro e W1 ⟨rfl, hb1⟩; replace HE := Lib.hid (errT_below HE.out hb1); replace H0 := Lib.hid (below_row hb1 H0.out); replace H1 := Lib.hid (below_row hb1 H1.out); replace H2 := Lib.hid (below_row hb1 H2.out); replace hb := hb.trans (hb1.mono hb.size); clear hb1)
  go_upto_region 8 with (go_at_call 40; refine (as_Floor_Hour _ _ _ HE.out).mono ?_; rintro e W2 ⟨rfl, hb1⟩; replace HE := Lib.hid (errT_below HE.out hb1); replace H0 := Lib.hid (below_row hb1 H0.out); replace H1 := Lib.hid (below_row hb1 H1.out); replace H2 := Lib.hid (below_row hb1 H2.out); replace hb := hb.trans (hb1.mono hb.size); clear hb1)
  go_wp2_with (go_at_call 40; refine (as_Hour_Hour _ _ _ _ HE.out H1.out rfl rfl (one_i64 h)).mono ?_; rintro e W9 ⟨rfl, U, hU, hrow, rfl⟩; replace hb := hb.trans (hU.mono hb.size); clear hU)
  go_ret
  exact ⟨rfl, below_setRow hb hs1 _⟩

theorem codeOfDay_any (r : Rf) (hr : rfOk r) (w : World) (hE : ErrT w) : Calls Tryz.prog 23 #[rfV r] w fun e w' => e = .returned (.int .i64 (rfC r)) ∧ Below w.heap.size w w' :=
  match r, hr with
  | .non, _ => codeD_non w
  | .call c, _ => codeD_call c w hE
  | .hour h, _ => codeD_hour h w hE
  | .floor cs, hr => codeD_floor cs hr.1 hr.2 w hE

end Go.Proofs.YtmniodfdoidffaaGreatDoor
