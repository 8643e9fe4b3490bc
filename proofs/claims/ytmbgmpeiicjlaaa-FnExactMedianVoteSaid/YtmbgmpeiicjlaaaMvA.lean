/-
  What reflectlite says of a ballot, a named list of floats.

-/
import Derived.Test.YtmbgmpeiicjlaaaProg
import Derived.Test.YtmbgmpeiicjlaaaRow
import Derived.Lib.ReflectliteSlice

namespace Go.Proofs.Ytmbgmpeiicjlaaa

open Go.RowKit Go.Lib Go.Extern Go.Extern.Rtype

set_option maxRecDepth 100000 in
theorem mv_kind (w : World) : (Extern.Rtype.kind 31).run Try.prog w = .ok 23 w := by kernel_rfl

set_option maxRecDepth 100000 in
theorem mv_elem (w : World) : (Extern.Rtype.elem? 31).run Try.prog w = .ok (some 23) w := by kernel_rfl

set_option maxRecDepth 100000 in
theorem mv_valueOf (p : Option Addr) (n c : Nat) (w : World) : (Extern.ReflectliteValue.unpack (.iface 31 (.slice p n c))).run Try.prog w = .ok (.agg #[.pointer (some ⟨Try.prog.globals.size, 31, none⟩), .pointer (some ⟨w.heap.size, 0, none⟩), .int .u64 151]) (w.alloc (.cells #[.slice p n c] 31)) := by
  simp [Extern.ReflectliteValue.unpack, Extern.ReflectliteValue.mk, newVar, newRow, Extern.Rtype.handle, mv_kind, Result.andThen, Value.cells, Extern.ReflectliteValue.flagIndir]
  rfl

set_option maxRecDepth 100000 in
theorem mv_packed : Try.prog.packed 31 = false := by kernel_rfl

set_option maxRecDepth 100000 in
theorem mv_under : Try.prog.underlying 31 = some (.slice 23) := by kernel_rfl

set_option maxRecDepth 100000 in
theorem mv_under2 : ∃ i : TypeInfo, i.desc = .slice 23 ∧ ∀ w, (Extern.Rtype.under 31).run Try.prog w = .ok (22, i) w := ⟨(Try.prog.info? 22).get!, by kernel_rfl, fun w => by kernel_rfl⟩

theorem mv_len (a : Addr) (p : Option Addr) (n c : Nat) (w : World) (ha : w.cell? a = some (.slice p n c)) :
    (Extern.ReflectliteValue.method (Extern.ReflectliteValue.valueError "reflectlite.Value.Len" 0) Extern.ReflectliteValue.len #[.agg #[.pointer (some ⟨Try.prog.globals.size, 31, none⟩), .pointer (some a), .int .u64 151]]).run Try.prog w = .ok (.int .i64 n) w := by
  have h1 := Go.Lib.run_parts (P := Try.prog) 31 a mv_packed w
  rw [Go.Lib.rl_method]
  simp only [Sem.run_bind, show (Extern.ReflectliteValue.parts (.agg #[.pointer (some ⟨Try.prog.globals.size, 31, none⟩), .pointer (some a), .int .u64 151])).run Try.prog w = .ok (some (31, a, 151)) w from h1, Result.andThen]
  obtain ⟨i, hid, hk⟩ := mv_under2
  have hu := mv_under
  simp [Extern.ReflectliteValue.len, hk, hid, loadVar, isAgg, underlying, hu, ha, Builtin.len_, goInt, Result.andThen]

theorem mv_swapper2 (p : Option Addr) (k c : Nat) (w : World) :
    (Extern.ReflectliteSwapper.swapper "internal/reflectlite" (Extern.ReflectliteValue.valueError "Swapper") #[.iface 31 (.slice p (k + 2) c)]).run Try.prog w = .ok (.func (.func 30) #[] #[.slice p (k + 2) c, .pointer (some ⟨Try.prog.globals.size, 23, none⟩)]) w := by
  rw [Go.Lib.rl_swapper]
  simp only [Sem.run_bind, mv_elem, Result.andThen]
  kernel_rfl

theorem mv_swapper1 (p : Option Addr) (c : Nat) (w : World) :
    (Extern.ReflectliteSwapper.swapper "internal/reflectlite" (Extern.ReflectliteValue.valueError "Swapper") #[.iface 31 (.slice p 1 c)]).run Try.prog w = .ok (.func (.func 26) #[] #[]) w := by
  rw [Go.Lib.rl_swapper]
  simp only [Sem.run_bind, mv_elem, Result.andThen]
  kernel_rfl

end Go.Proofs.Ytmbgmpeiicjlaaa
