/-
  Refusals and their codes: errors.Is of the sentinels.
-/
import Derived.Test.YtddnfbpgldchcaaDoorChecked
import Derived.Test.YtddnfbpgldchcaaDoorErrs
import Derived.LaidEql
import Derived.Stop.Asserts
import Derived.RowKitTokens
import Derived.Elder7
import Derived.Lib.Hide
namespace Go.Proofs.YtddnfbpgldchcaaDoor
open Go.RowKit Go.Extern.Stop Go.Stop Go.Extern

/-- The handle of the sentinels' type. -/
noncomputable def errH : Value := typeHandle Tryd.prog 122
theorem is_typeOf (v : Value) (w : World) : (Extern.ReflectliteType.typeOf #[.iface 122 v]).run Tryd.prog w = .ok (.iface 106 (.agg #[errH])) w := by kernel_rfl
theorem is_comparable (w : World) : (Extern.ReflectliteType.method (fun t => do Extern.Rtype.noPackHeld "Comparable" t; (fun a => Value.bool a.comparable) <$> typeInfo t) #[.agg #[errH]]).run Tryd.prog w = .ok (.bool true) w := by kernel_rfl
theorem is_method (n : Nat) (v : Value) (w : World) : (Go.method (n + 1) 106 v "Comparable").run Tryd.prog w = .ok (85, v) w := by kernel_rfl
theorem is_comp : (Tryd.prog.info? 122).map (·.comparable) = some true := by kernel_rfl
theorem is_size : (Tryd.prog.info? 148).map (·.size) = some 1 := by kernel_rfl
theorem is_noIs (v : Value) (xT : TypeId) (w : World) : (Instr.typeAssert (.iface 122 v) xT 108 true).run Tryd.prog w = .ok (.tuple #[.nilIface, .bool false]) w := run_typeAssert_lacksB Tryd.underlying108 (by kernel_rfl) (by kernel_rfl) v xT w
theorem is_noUnwrap (v : Value) (xT : TypeId) (w : World) : (Instr.typeAssert (.iface 122 v) xT 111 true).run Tryd.prog w = .ok (.tuple #[.nilIface, .bool false]) w := run_typeAssert_lacksB Tryd.underlying111 (by kernel_rfl) (by kernel_rfl) v xT w
theorem is_noUnwraps (v : Value) (xT : TypeId) (w : World) : (Instr.typeAssert (.iface 122 v) xT 113 true).run Tryd.prog w = .ok (.tuple #[.nilIface, .bool false]) w := run_typeAssert_lacksB Tryd.underlying113 (by kernel_rfl) (by kernel_rfl) v xT w

set_option maxRecDepth 1000000 in
theorem is_same {W : World} (a : Addr) : Calls Tryd.prog 50 #[errV a, errV a, .bool true] W fun e w' => e = .returned (.bool true) ∧ W = w' := by
  obtain ⟨i, hi, hcmp⟩ := Option.map_eq_some_iff.1 is_comp
  obtain ⟨j, hj, hjs⟩ := Option.map_eq_some_iff.1 is_size
  have heq := fun w => run_eql_iface_ptr_same (P := Tryd.prog) w a Tryd.underlying53 Tryd.underlying122 hi hcmp hj
  unfold errV
  go_enter Tryd.func50, Tryd.ntmps50
  go_wp2
  go_loopw [0] (fun E wl => wl = W ∧ E = .iface 122 (.pointer (some a))) (fun _ _ => 0)
  case atStart => exact ⟨rfl, rfl⟩
  case round =>
    obtain ⟨rfl, rfl⟩ := hrel
    go_wp2
    go_ret
    exact ⟨rfl, rfl⟩

set_option maxRecDepth 1000000 in
theorem is_other {W : World} {a b : Addr} (hne : a ≠ b) (ha : Plain0 W a) (hb : Plain0 W b) : Calls Tryd.prog 50 #[errV a, errV b, .bool true] W fun e w' => e = .returned (.bool false) ∧ W = w' := by
  obtain ⟨i, hi, hcmp⟩ := Option.map_eq_some_iff.1 is_comp
  obtain ⟨j, hj, hjs⟩ := Option.map_eq_some_iff.1 is_size
  obtain ⟨ca, ta, ha⟩ := ha
  obtain ⟨cb, tb, hb⟩ := hb
  have heq := run_eql_iface_ptr_other (P := Tryd.prog) W Tryd.underlying53 Tryd.underlying122 hi hcmp hj (by rw [hjs]; decide) hne ha hb
  have nE := is_noIs
  have uE := is_noUnwrap
  have vE := is_noUnwraps
  unfold errV
  go_enter Tryd.func50, Tryd.ntmps50
  go_wp2
  go_loopw [0] (fun E wl => wl = W ∧ E = .iface 122 (.pointer (some a))) (fun _ _ => 0)
  case atStart => exact ⟨rfl, rfl⟩
  case round =>
    obtain ⟨rfl, rfl⟩ := hrel
    go_wp2
    go_ret
    exact ⟨rfl, rfl⟩

/-- errors.Is of an error and a sentinel. -/
def IsB (W : World) (E : Value) (b : Addr) (r : Bool) : Prop := Calls Tryd.prog 37 #[E, errV b] W fun e w' => e = .returned (.bool r) ∧ W = w'

set_option maxRecDepth 1000000 in
theorem isB_nil (W : World) (b : Addr) : IsB W .nilIface b false := by
  have hn := run_eql_iface_nil_left (P := Tryd.prog) W 122 (.pointer (some b)) Tryd.underlying53
  unfold IsB errV
  go_enter Tryd.func37, Tryd.ntmps37
  go_wp2
  go_ret
  exact ⟨rfl, rfl⟩

set_option maxRecDepth 1000000 in
theorem isB_some (W : World) (a b : Addr) (r : Bool) (h : Calls Tryd.prog 50 #[errV a, errV b, .bool true] W fun e w' => e = .returned (.bool r) ∧ W = w') : IsB W (errV a) b r := by
  have h10 := @run_callFunc_extern Tryd.prog 49 _ Extern.ReflectliteType.typeOf Tryd.func49 (by kernel_rfl) (by kernel_rfl) (by kernel_rfl) (by kernel_rfl)
  have h30 := @run_callFunc_extern Tryd.prog 85 _ (Extern.ReflectliteType.method fun t => do Extern.Rtype.noPackHeld "Comparable" t; pure (.bool (← typeInfo t).comparable)) Tryd.func85 (by kernel_rfl) (by kernel_rfl) (by kernel_rfl) (by kernel_rfl)
  have tT := is_typeOf
  have cT := is_comparable
  have mR := is_method
  unfold IsB
  unfold errV at *
  go_enter Tryd.func37, Tryd.ntmps37
  go_wp2_with (first | (go_at_call 50; refine h.mono ?_; rintro e w' ⟨rfl, rfl⟩) | go_in)
  go_ret
  exact ⟨rfl, rfl⟩

/-- The code of an error, told by which sentinel it is. -/
def errOf (a0 a1 a2 a3 : Addr) : Nat → Value
  | 0 => .nilIface
  | 1 => errV a0
  | 2 => errV a1
  | 3 => errV a2
  | _ => errV a3
def codeE : Nat → Int
  | 0 => 0
  | 1 => 1
  | 2 => 2
  | 3 => 3
  | _ => 6

theorem isB_of {W : World} {a0 a1 a2 a3 : Addr} (h : ErrsAt W a0 a1 a2 a3) (k : Nat) :
    IsB W (errOf a0 a1 a2 a3 k) a0 (k == 1) ∧ IsB W (errOf a0 a1 a2 a3 k) a1 (k == 2) ∧ IsB W (errOf a0 a1 a2 a3 k) a2 (k == 3) ∧ IsB W (errOf a0 a1 a2 a3 k) a3 (decide (4 ≤ k)) := by
  match k with
  | 0 => exact ⟨isB_nil _ _, isB_nil _ _, isB_nil _ _, isB_nil _ _⟩
  | 1 => exact ⟨isB_some _ _ _ _ (is_same _), isB_some _ _ _ _ (is_other h.n01 h.b0 h.b1), isB_some _ _ _ _ (is_other h.n02 h.b0 h.b2), isB_some _ _ _ _ (is_other h.n03 h.b0 h.b3)⟩
  | 2 => exact ⟨isB_some _ _ _ _ (is_other h.n01.symm h.b1 h.b0), isB_some _ _ _ _ (is_same _), isB_some _ _ _ _ (is_other h.n12 h.b1 h.b2), isB_some _ _ _ _ (is_other h.n13 h.b1 h.b3)⟩
  | 3 => exact ⟨isB_some _ _ _ _ (is_other h.n02.symm h.b2 h.b0), isB_some _ _ _ _ (is_other h.n12.symm h.b2 h.b1), isB_some _ _ _ _ (is_same _), isB_some _ _ _ _ (is_other h.n23 h.b2 h.b3)⟩
  | k + 4 =>
    have e : decide (4 ≤ k + 4) = true := decide_eq_true (by omega)
    have e1 : (k + 4 == 1) = false := by simp
    have e2 : (k + 4 == 2) = false := by simp
    have e3 : (k + 4 == 3) = false := by simp
    rw [e, e1, e2, e3]
    exact ⟨isB_some _ _ _ _ (is_other h.n03.symm h.b3 h.b0), isB_some _ _ _ _ (is_other h.n13.symm h.b3 h.b1), isB_some _ _ _ _ (is_other h.n23.symm h.b3 h.b2), isB_some _ _ _ _ (is_same _)⟩

set_option maxRecDepth 1000000 in
theorem codeOf_any {W : World} {a0 a1 a2 a3 : Addr} (h : ErrsAt W a0 a1 a2 a3) (k : Nat) :
    Calls Tryd.prog 24 #[errOf a0 a1 a2 a3 k] W fun e w' => e = .returned (.int .i64 (codeE k)) ∧ W = w' := by
  obtain ⟨i0, i1, i2, i3⟩ := isB_of h k
  have c0 := h.v0
  have c1 := h.v1
  have c2 := h.v2
  have c3 := h.v3
  unfold IsB at i0 i1 i2 i3
  have I0 := Lib.hid i0
  have I1 := Lib.hid i1
  have I2 := Lib.hid i2
  have I3 := Lib.hid i3
  clear i0 i1 i2 i3 h
  match k with
  | 0 =>
    go_enter Tryd.func24, Tryd.ntmps24
    go_wp2_with (first | (go_at_call 37; (with_reducible refine I0.out.mono ?_); rintro e w' ⟨rfl, rfl⟩) | (go_at_call 37; (with_reducible refine I1.out.mono ?_); rintro e w' ⟨rfl, rfl⟩) | (go_at_call 37; (with_reducible refine I2.out.mono ?_); rintro e w' ⟨rfl, rfl⟩) | (go_at_call 37; (with_reducible refine I3.out.mono ?_); rintro e w' ⟨rfl, rfl⟩))
    go_ret
    exact ⟨rfl, rfl⟩
  | 1 =>
    go_enter Tryd.func24, Tryd.ntmps24
    go_wp2_with (go_at_call 37; (with_reducible refine I0.out.mono ?_); rintro e w' ⟨rfl, rfl⟩)
    go_ret
    exact ⟨rfl, rfl⟩
  | 2 =>
    go_enter Tryd.func24, Tryd.ntmps24
    go_wp2_with (first | (go_at_call 37; (with_reducible refine I0.out.mono ?_); rintro e w' ⟨rfl, rfl⟩) | (go_at_call 37; (with_reducible refine I1.out.mono ?_); rintro e w' ⟨rfl, rfl⟩))
    go_ret
    exact ⟨rfl, rfl⟩
  | 3 =>
    go_enter Tryd.func24, Tryd.ntmps24
    go_wp2_with (first | (go_at_call 37; (with_reducible refine I0.out.mono ?_); rintro e w' ⟨rfl, rfl⟩) | (go_at_call 37; (with_reducible refine I1.out.mono ?_); rintro e w' ⟨rfl, rfl⟩) | (go_at_call 37; (with_reducible refine I2.out.mono ?_); rintro e w' ⟨rfl, rfl⟩))
    go_ret
    exact ⟨rfl, rfl⟩
  | k + 4 =>
    go_enter Tryd.func24, Tryd.ntmps24
    go_wp2_with (first | (go_at_call 37; (with_reducible refine I0.out.mono ?_); rintro e w' ⟨rfl, rfl⟩) | (go_at_call 37; (with_reducible refine I1.out.mono ?_); rintro e w' ⟨rfl, rfl⟩) | (go_at_call 37; (with_reducible refine I2.out.mono ?_); rintro e w' ⟨rfl, rfl⟩) | (go_at_call 37; (with_reducible refine I3.out.mono ?_); rintro e w' ⟨rfl, rfl⟩))
    go_ret
    exact ⟨rfl, rfl⟩

/-- Which error a call is refused with. -/
def refN (v r f : Bool) : Nat := if !v then 1 else if !r then 2 else if !f then 3 else 0

set_option maxRecDepth 1000000 in
theorem refusal_any {W : World} {a0 a1 a2 a3 : Addr} (h : ErrsAt W a0 a1 a2 a3) (v r f : Bool) :
    Calls Tryd.prog 22 #[.bool v, .bool r, .bool f] W fun e w' => e = .returned (errOf a0 a1 a2 a3 (refN v r f)) ∧ W = w' := by
  have c0 := h.v0
  have c1 := h.v1
  have c2 := h.v2
  cases v <;> cases r <;> cases f
  all_goals
    go_enter Tryd.func22, Tryd.ntmps22
    go_wp2
    go_ret
    exact ⟨rfl, rfl⟩

end Go.Proofs.YtddnfbpgldchcaaDoor
