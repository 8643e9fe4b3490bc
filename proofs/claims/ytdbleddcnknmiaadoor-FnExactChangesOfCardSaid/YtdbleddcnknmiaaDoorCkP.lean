/-
  A plan that is not valid panics, and its refusal comes of the panic.
-/
import Derived.Test.YtdbleddcnknmiaaDoorCdD
import Derived.Test.YtdbleddcnknmiaaDoorValidPlan
import Derived.Tactics2
import Derived.Defers
import Derived.Recover
import Derived.Laws.Pointers
import Derived.Stop.Asserts
namespace Go.Proofs.YtdbleddcnknmiaaDoor
open Go.ChangeShapes Go.WideShapes Go.ChangeAt Go.RowKit

theorem np_has (v : Value) (xT : TypeId) (w : World) : (Instr.typeAssert (.iface 124 v) xT 90 true).run Tryd.prog w = .ok (.tuple #[.iface 124 v, .bool true]) w := run_typeAssert_hasB Tryd.underlying90 (by kernel_rfl) v xT w

theorem np_nil (xT : TypeId) (w : World) : (Instr.typeAssert .nilIface xT 90 true).run Tryd.prog w = .ok (.tuple #[.nilIface, .bool false]) w := by kernel_rfl

theorem np_method (n : Nat) (v : Value) (w : World) : (Go.method (n + 1) 124 v "loop.example/g01367/impl.refuse").run Tryd.prog w = .ok (139, v) w := by kernel_rfl

set_option maxRecDepth 100000 in
set_option maxHeartbeats 1000000 in
theorem refuse_any (ps : List Int) (w : World) : Calls Tryd.prog 139 #[.agg (i16s ps)] w fun e w' => e = .returned (.iface 94 (.agg #[.int .i64 1])) ∧ Below w.heap.size w w' := by
  go_enter Tryd.func139, Tryd.ntmps139
  go_wp2
  go_ret
  exact ⟨rfl, (Below.refl _ _).alloc (Nat.le_refl _) _⟩

set_option maxRecDepth 100000 in
set_option maxHeartbeats 1000000 in
theorem mustBe_true (ps : List Int) (hp : ps.length = 24) (hok : okP ps = true) (w : World) : Calls Tryd.prog 51 #[.agg (i16s ps)] w fun e w' => e = .returned (.tuple #[]) ∧ Below w.heap.size w w' := by
  have HV := Lib.hid (fun w => ValidPlan_any ps hp w)
  rw [hok] at HV
  have Hp := Lib.hid hp
  clear hp hok
  go_enter Tryd.func51, Tryd.ntmps51
  go_upto_region 1 with (fail)
  refine abs_code (fun W => Below w.heap.size w W ∧ W.heap[w.heap.size]? = some (.cells (i16s ps) 26 (0, 0))) ⟨(Below.refl _ _).alloc (Nat.le_refl _) _, heap_alloc_new _ _⟩ ?_
  rintro W ⟨hb, h0⟩
  have H0 := Lib.hid h0
  clear h0
  go_wp2_with (first | (refine wpList_load_part rfl 26 _ rfl w.heap.size 0 24 rfl 26 (i16s ps) (0, 0) _ H0.out Tryd.underlying26 rfl info_plan (by rw [i16s_size, Hp.out]; decide) (i16s ps) (i16s_all _ 24 Hp.out) ?_) | (go_at_call 74; refine (HV.out _).mono ?_; rintro e W1 ⟨rfl, hb1⟩; replace H0 := Lib.hid (below_row hb1 H0.out); replace hb := hb.trans (hb1.mono hb.size); clear hb1))
  go_end0
  exact ⟨rfl, hb⟩

set_option maxRecDepth 100000 in
set_option maxHeartbeats 1000000 in
theorem mustBe_false (ps : List Int) (hp : ps.length = 24) (hok : okP ps = false) (w : World) : Calls Tryd.prog 51 #[.agg (i16s ps)] w fun e w' => e = .panicked [{ v := .iface 124 (.agg (i16s ps)), recovered := false }] ∧ Below w.heap.size w w' := by
  have HV := Lib.hid (fun w => ValidPlan_any ps hp w)
  rw [hok] at HV
  have Hp := Lib.hid hp
  clear hp hok
  go_enter Tryd.func51, Tryd.ntmps51
  go_upto_region 1 with (fail)
  refine abs_code (fun W => Below w.heap.size w W ∧ W.heap[w.heap.size]? = some (.cells (i16s ps) 26 (0, 0))) ⟨(Below.refl _ _).alloc (Nat.le_refl _) _, heap_alloc_new _ _⟩ ?_
  rintro W ⟨hb, h0⟩
  have H0 := Lib.hid h0
  clear h0
  go_wp2_with (first | (refine wpList_load_part rfl 26 _ rfl w.heap.size 0 24 rfl 26 (i16s ps) (0, 0) _ H0.out Tryd.underlying26 rfl info_plan (by rw [i16s_size, Hp.out]; decide) (i16s ps) (i16s_all _ 24 Hp.out) ?_) | (go_at_call 74; refine (HV.out _).mono ?_; rintro e W1 ⟨rfl, hb1⟩; replace H0 := Lib.hid (below_row hb1 H0.out); replace hb := hb.trans (hb1.mono hb.size); clear hb1))
  
  exact ⟨rfl, rfl, hb⟩

set_option maxRecDepth 100000 in
set_option maxHeartbeats 4000000 in
theorem catch_np (p : Addr) (ps : List Int) (older : List PanicEntry) (w : World) (hz : ∀ U, Below w.heap.size w U → U.cell? p = some .nilIface ∧ U.frozen? p = false) :
    CallsD Tryd.prog 50 #[.pointer (some p)] (.panicking ({ v := .iface 124 (.agg (i16s ps)), recovered := false } :: older)) w fun e u' w' =>
      e = .returned (.tuple #[]) ∧ u' = .panicking ({ v := .iface 124 (.agg (i16s ps)), recovered := true } :: older) ∧ ∃ U, Below w.heap.size w U ∧ w' = U.setCell p (.iface 94 (.agg #[.int .i64 1])) := by
  have hnp := np_has
  have hme := np_method
  refine callsD_of_wpS Tryd.func50 rfl fun c₀ cs hu => ?_
  apply wpS_seq
  apply wpS_region
  simp [wpOpsS, go_sem, recoverD, hu, Tryd.ntmps50, Exit.thenS, hnp]
  apply wpS_seq
  apply wpS_region
  simp [wpOpsS, go_sem, Exit.thenS]
  refine wpS_cond (t := true) (by simp [Act.eval, Array.replicate]) ?_
  simp only [if_true]
  refine wpS_of_wp ?_
  go_wp2_with (go_at_call 139; refine (refuse_any ps _).mono ?_; rintro e W1 ⟨rfl, hb1⟩; obtain ⟨z1, z2⟩ := hz _ hb1)
  simp [bodyPostS, results, Tryd.results50]
  exact ⟨_, hb1, rfl⟩

theorem catch_idle (p : Addr) (w : World) :
    CallsD Tryd.prog 50 #[.pointer (some p)] .returning w fun e u' w' => e = .returned (.tuple #[]) ∧ u' = .returning ∧ w' = w := by
  have hnn := np_nil
  refine callsD_of_wpS Tryd.func50 rfl fun c₀ cs hu => ?_
  apply wpS_seq
  apply wpS_region
  simp [wpOpsS, go_sem, recoverD, hu, Tryd.ntmps50, Exit.thenS, hnn]
  apply wpS_seq
  apply wpS_region
  simp [wpOpsS, go_sem, Exit.thenS]
  refine wpS_cond (t := false) (by simp [Act.eval, Array.replicate]) ?_
  simp only [Bool.false_eq_true, if_false]
  refine wpS_of_wp (wp_skip ?_)
  cases c₀
  simp_all [bodyPostS, results, Tryd.results50]

set_option maxRecDepth 100000 in
set_option maxHeartbeats 4000000 in
theorem checkPlan_ok (ps : List Int) (hp : ps.length = 24) (hok : okP ps = true) (w : World) : Calls Tryd.prog 28 #[.agg (i16s ps)] w fun e w' => e = .returned .nilIface ∧ Below w.heap.size w w' := by
  have hmf : ∀ (fn : Fn) (first cap : Array Value) (w : World), (Instr.makeFunc fn first cap).run Tryd.prog w = .ok (.func fn first cap) w := fun _ _ _ _ => rfl
  have Hp := Lib.hid hp
  clear hp
  go_enter_defers Tryd.func28, Tryd.ntmps28
  go_upto_region 1 with (fail)
  refine abs_code (fun W => W.heap[w.heap.size]? = some (.cells (i16s ps) 26 (0, 0)) ∧ W.heap[w.heap.size + 1]? = some (.cells #[.nilIface] 62 (0, 0)) ∧ Below w.heap.size w W) ⟨heap_alloc2_old _ _ _, heap_alloc2_new _ _ _, ((Below.refl _ _).alloc (Nat.le_refl _) _).alloc (by simp) _⟩ ?_
  rintro W ⟨h0, h1, hb⟩
  have hs1 : w.heap.size ≤ w.heap.size + 1 := by omega
  generalize w.heap.size + 1 = b1 at *
  have H0 := Lib.hid h0
  have H1 := Lib.hid h1
  clear h0 h1
  go_upto_region 3 with (first | (refine wpList_load_part rfl 26 _ rfl w.heap.size 0 24 rfl 26 (i16s ps) (0, 0) _ H0.out Tryd.underlying26 rfl info_plan (by rw [i16s_size, Hp.out]; decide) (i16s ps) (i16s_all _ 24 Hp.out) ?_) | (go_at_call 51; refine (mustBe_true ps Hp.out hok _).mono ?_; rintro e W1 ⟨rfl, hb1⟩; replace H0 := Lib.hid (below_row hb1 H0.out); replace H1 := Lib.hid (below_row hb1 H1.out); replace hb := hb.trans (hb1.mono hb.size); clear hb1))
  have z1 : W1.cell? ⟨b1, 0, none⟩ = some .nilIface := by rw [cell_of_row _ _ _ _ _ _ H1.out]; rfl
  have z2 := frozen_of_row W1 b1 0 _ _ H1.out
  have HR : Hid ((W1.setCell ⟨b1, 0, none⟩ .nilIface).heap[b1]? = some (.cells #[.nilIface] 62 (0, 0))) := by rw [heap_setCell_same _ _ _ _ _ _ H1.out]; rfl
  have HB : Hid (Below w.heap.size w (W1.setCell ⟨b1, 0, none⟩ .nilIface)) := hb.setCell (p := ⟨b1, 0, none⟩) hs1 _
  clear H0 H1 hb
  go_wp2
  refine leaves_cons (f := 50) (args := #[.pointer (some ⟨b1, 0, none⟩)]) (by simp) (by simp [go_sem]) ?_
  refine (catch_idle _ _).mono ?_
  rintro e u' w'' ⟨rfl, rfl, rfl⟩
  have z3 : (W1.setCell ⟨b1, 0, none⟩ .nilIface).cell? ⟨b1, 0, none⟩ = some .nilIface := by rw [cell_of_row _ _ _ _ _ _ HR.out]; rfl
  generalize W1.setCell ⟨b1, 0, none⟩ .nilIface = V at *
  simp [Leaves, settle, results, Tryd.results28, go_sem, z3]
  exact HB.out

set_option maxRecDepth 100000 in
set_option maxHeartbeats 4000000 in
theorem checkPlan_no (ps : List Int) (hp : ps.length = 24) (hok : okP ps = false) (w : World) : Calls Tryd.prog 28 #[.agg (i16s ps)] w fun e w' => e = .returned (.iface 94 (.agg #[.int .i64 1])) ∧ Below w.heap.size w w' := by
  have hmf : ∀ (fn : Fn) (first cap : Array Value) (w : World), (Instr.makeFunc fn first cap).run Tryd.prog w = .ok (.func fn first cap) w := fun _ _ _ _ => rfl
  have Hp := Lib.hid hp
  clear hp
  go_enter_defers Tryd.func28, Tryd.ntmps28
  go_upto_region 1 with (fail)
  refine abs_code (fun W => W.heap[w.heap.size]? = some (.cells (i16s ps) 26 (0, 0)) ∧ W.heap[w.heap.size + 1]? = some (.cells #[.nilIface] 62 (0, 0)) ∧ Below w.heap.size w W) ⟨heap_alloc2_old _ _ _, heap_alloc2_new _ _ _, ((Below.refl _ _).alloc (Nat.le_refl _) _).alloc (by simp) _⟩ ?_
  rintro W ⟨h0, h1, hb⟩
  have hs1 : w.heap.size ≤ w.heap.size + 1 := by omega
  generalize w.heap.size + 1 = b1 at *
  have H0 := Lib.hid h0
  have H1 := Lib.hid h1
  clear h0 h1
  go_wp2_with (first | (refine wpList_load_part rfl 26 _ rfl w.heap.size 0 24 rfl 26 (i16s ps) (0, 0) _ H0.out Tryd.underlying26 rfl info_plan (by rw [i16s_size, Hp.out]; decide) (i16s ps) (i16s_all _ 24 Hp.out) ?_) | (go_at_call 51; refine (mustBe_false ps Hp.out hok _).mono ?_; rintro e W1 ⟨rfl, hb1⟩; replace H0 := Lib.hid (below_row hb1 H0.out); replace H1 := Lib.hid (below_row hb1 H1.out); replace hb := hb.trans (hb1.mono hb.size); clear hb1))
  refine leaves_cons (f := 50) (args := #[.pointer (some ⟨b1, 0, none⟩)]) (by simp) (by simp [go_sem]) ?_
  have hz : ∀ U, Below W1.heap.size W1 U → U.cell? ⟨b1, 0, none⟩ = some .nilIface ∧ U.frozen? ⟨b1, 0, none⟩ = false := fun U hU => ⟨by rw [cell_of_row _ _ _ _ _ _ (below_row hU H1.out)]; rfl, frozen_of_row U b1 0 _ _ (below_row hU H1.out)⟩
  refine (catch_np _ ps _ _ hz).mono ?_
  rintro e u' w'' ⟨rfl, rfl, U, hU, rfl⟩
  have HR : Hid ((U.setCell ⟨b1, 0, none⟩ (.iface 94 (.agg #[.int .i64 1]))).heap[b1]? = some (.cells #[.iface 94 (.agg #[.int .i64 1])] 62 (0, 0))) := by rw [heap_setCell_same _ _ _ _ _ _ (below_row hU H1.out)]; rfl
  have HB : Hid (Below w.heap.size w (U.setCell ⟨b1, 0, none⟩ (.iface 94 (.agg #[.int .i64 1])))) := (hb.trans (hU.mono hb.size)).setCell (p := ⟨b1, 0, none⟩) hs1 _
  have z3 : (U.setCell ⟨b1, 0, none⟩ (.iface 94 (.agg #[.int .i64 1]))).cell? ⟨b1, 0, none⟩ = some (.iface 94 (.agg #[.int .i64 1])) := by rw [cell_of_row _ _ _ _ _ _ HR.out]; rfl
  generalize U.setCell ⟨b1, 0, none⟩ (.iface 94 (.agg #[.int .i64 1])) = V at *
  simp [Leaves, settle, results, Tryd.results28, go_sem, z3]
  exact HB.out

def planRf (ps : List Int) : Rf := if okP ps = true then .non else .call 1

theorem checkPlan_any (ps : List Int) (hp : ps.length = 24) (w : World) : Calls Tryd.prog 28 #[.agg (i16s ps)] w fun e w' => e = .returned (rfV (planRf ps)) ∧ Below w.heap.size w w' := by
  unfold planRf
  cases h : okP ps with
  | true => exact checkPlan_ok ps hp h w
  | false => exact checkPlan_no ps hp h w

end Go.Proofs.YtdbleddcnknmiaaDoor
