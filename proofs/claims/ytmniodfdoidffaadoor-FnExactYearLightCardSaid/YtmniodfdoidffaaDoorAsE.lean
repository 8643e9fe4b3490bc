/-
  errors.As of refusals of three types, at targets of these types: the walks.
-/
import Derived.Test.YtmniodfdoidffaaDoorAsF
namespace Go.Proofs.YtmniodfdoidffaaDoor
open Go.RowKit Go.Extern.Stop Go.Stop Go.Extern

set_option maxRecDepth 1000000 in
set_option maxHeartbeats 8000000 in
theorem as_Call_Call (g : Nat) (cs zs : Array Value) (w : World) (hE : ErrT w) (ht : w.heap[g]? = some (.cells zs 181 (0, 0))) (hc : cs.size = 1) (hz : zs.size = 1) (h1 : ∀ v ∈ cs, v.oneCell' = true) :
    Calls Tryd.prog 139 #[.iface 181 (.agg cs), .iface 185 (.pointer (some ⟨g, 0, none⟩))] w fun ev w' => ev = .returned (.bool true) ∧ ∃ U, Below w.heap.size w U ∧ U.heap[g]? = some (.cells zs 181 (0, 0)) ∧ w' = U.setRow g cs := by
  have h6 := @run_callFunc_extern Tryd.prog 183 _ (fun args => ReflectliteValue.unpack (args.getD 0 (.tuple #[]))) Tryd.func183 (by kernel_rfl) (by kernel_rfl) (by kernel_rfl) (by kernel_rfl)
  have h7 := @run_callFunc_extern Tryd.prog 184 _ (ReflectliteValue.methodAny (ReflectliteValue.valueError "reflectlite.Value.Type" 0) (fun t _ _ _ => ReflectliteType.toType t)) Tryd.func184 (by kernel_rfl) (by kernel_rfl) (by kernel_rfl) (by kernel_rfl)
  have h8 := @run_callFunc_extern Tryd.prog 185 _ (ReflectliteValue.method (ReflectliteValue.valueError "reflectlite.Value.IsNil" 0) ReflectliteValue.isNil) Tryd.func185 (by kernel_rfl) (by kernel_rfl) (by kernel_rfl) (by kernel_rfl)
  have h27 := @run_callFunc_extern Tryd.prog 232 _ (ReflectliteType.abiMethod fun t => do pure (.int .u8 (← Rtype.kind t))) Tryd.func232 (by kernel_rfl) (by kernel_rfl) (by kernel_rfl) (by kernel_rfl)
  have h37 := @run_callFunc_extern Tryd.prog 255 _ (ReflectliteType.method ReflectliteType.elem) Tryd.func255 (by kernel_rfl) (by kernel_rfl) (by kernel_rfl) (by kernel_rfl)
  have h38 := @run_callFunc_extern Tryd.prog 256 _ (ReflectliteType.relation "Implements" ReflectliteType.implements_) Tryd.func256 (by kernel_rfl) (by kernel_rfl) (by kernel_rfl) (by kernel_rfl)
  have h10 := @run_callFunc_extern Tryd.prog 171 _ ReflectliteType.typeOf Tryd.func171 (by kernel_rfl) (by kernel_rfl) (by kernel_rfl) (by kernel_rfl)
  have h35 := @run_callFunc_extern Tryd.prog 253 _ (ReflectliteType.relation "AssignableTo" ReflectliteType.assignableTo) Tryd.func253 (by kernel_rfl) (by kernel_rfl) (by kernel_rfl) (by kernel_rfl)
  have h11 := @run_callFunc_extern Tryd.prog 209 _ (ReflectliteValue.method (ReflectliteValue.valueError "reflectlite.Value.Elem" 0) ReflectliteValue.elem) Tryd.func209 (by kernel_rfl) (by kernel_rfl) (by kernel_rfl) (by kernel_rfl)
  have h12 := @run_callFunc_extern Tryd.prog 210 _ ReflectliteValue.set Tryd.func210 (by kernel_rfl) (by kernel_rfl) (by kernel_rfl) (by kernel_rfl)
  have tO := as_typeOfCall
  have mA := as_mAssign
  have a25 := as_assignCallCall
  have f6 := as_valuePCall
  have f7 := as_typePCall
  have mK := as_mKind
  have mE := as_mElem
  have mI := as_mImpl
  have k27 := as_kindPCall
  have k25 := as_kindCall
  have e27 := as_elemPCall
  have i25 := as_implCall
  have n8 := as_isNilCall ⟨w.heap.size, 0, none⟩ ⟨g, 0, none⟩ ((w.alloc (.cells #[.pointer (some ⟨g, 0, none⟩)] 185)).alloc (.cells #[tyH 185, .pointer (some ⟨w.heap.size, 0, none⟩), .int .u64 150] 236)) (by simp)
  have hg2 : (((w.alloc (.cells #[.pointer (some ⟨g, 0, none⟩)] 185)).alloc (.cells #[tyH 185, .pointer (some ⟨w.heap.size, 0, none⟩), .int .u64 150] 236))).cell? ⟨5, 0, none⟩ = some (.iface 263 (.agg #[tyH 86])) := errT_below hE (((Below.refl _ _).alloc (Nat.le_refl _) _).alloc (by simp) _)
  have v25 := as_valueCall
  have htl := row_lt ht
  have el := as_elemVCall ⟨w.heap.size, 0, none⟩ ⟨g, 0, none⟩ (((w.alloc (.cells #[.pointer (some ⟨g, 0, none⟩)] 185)).alloc (.cells #[tyH 185, .pointer (some ⟨w.heap.size, 0, none⟩), .int .u64 150] 236)).alloc (.cells #[tyH 185, .pointer (some ⟨w.heap.size, 0, none⟩), .int .u64 150] 236)) (by rw [World.cell?_alloc_lt _ _ ⟨w.heap.size, 0, none⟩ (by simp; omega)]; simp)
  have hbel : Below w.heap.size w ((((w.alloc (.cells #[.pointer (some ⟨g, 0, none⟩)] 185)).alloc (.cells #[tyH 185, .pointer (some ⟨w.heap.size, 0, none⟩), .int .u64 150] 236)).alloc (.cells #[tyH 185, .pointer (some ⟨w.heap.size, 0, none⟩), .int .u64 150] 236)).alloc (.cells cs 181)) := ((((Below.refl _ _).alloc (Nat.le_refl _) _).alloc (by simp) _).alloc (by simp; omega) _).alloc (by simp; omega) _
  have hrow := below_row hbel ht
  have hnew : (((((w.alloc (.cells #[.pointer (some ⟨g, 0, none⟩)] 185)).alloc (.cells #[tyH 185, .pointer (some ⟨w.heap.size, 0, none⟩), .int .u64 150] 236)).alloc (.cells #[tyH 185, .pointer (some ⟨w.heap.size, 0, none⟩), .int .u64 150] 236)).alloc (.cells cs 181))).heap[w.heap.size + 1 + 1 + 1]? = some (.cells cs 181 (0, 0)) := by
    show (((((w.alloc (.cells #[.pointer (some ⟨g, 0, none⟩)] 185)).alloc (.cells #[tyH 185, .pointer (some ⟨w.heap.size, 0, none⟩), .int .u64 150] 236)).alloc (.cells #[tyH 185, .pointer (some ⟨w.heap.size, 0, none⟩), .int .u64 150] 236))).heap.push _)[w.heap.size + 1 + 1 + 1]? = _
    rw [Array.getElem?_push, if_pos (by simp)]
  have st := as_setCall g (w.heap.size + 1 + 1 + 1) cs zs ((((w.alloc (.cells #[.pointer (some ⟨g, 0, none⟩)] 185)).alloc (.cells #[tyH 185, .pointer (some ⟨w.heap.size, 0, none⟩), .int .u64 150] 236)).alloc (.cells #[tyH 185, .pointer (some ⟨w.heap.size, 0, none⟩), .int .u64 150] 236)).alloc (.cells cs 181)) hnew hrow hc hz h1
  have HB := Lib.hid (And.intro hbel hrow)
  clear hbel hrow hnew ht hc hz h1
  go_enter Tryd.func139, Tryd.ntmps139
  go_wp2
  refine wp_loop_rounds 1 ?_
  rw [rounds_succ]
  go_wp2
  go_ret
  exact ⟨rfl, _, HB.out.1, HB.out.2, rfl⟩

set_option maxRecDepth 1000000 in
set_option maxHeartbeats 8000000 in
theorem as_Call_Hour (g : Nat) (cs : Array Value) (w : World) (hE : ErrT w) :
    Calls Tryd.prog 139 #[.iface 183 (.agg cs), .iface 185 (.pointer (some ⟨g, 0, none⟩))] w fun ev w' => ev = .returned (.bool false) ∧ Below w.heap.size w w' := by
  have h6 := @run_callFunc_extern Tryd.prog 183 _ (fun args => ReflectliteValue.unpack (args.getD 0 (.tuple #[]))) Tryd.func183 (by kernel_rfl) (by kernel_rfl) (by kernel_rfl) (by kernel_rfl)
  have h7 := @run_callFunc_extern Tryd.prog 184 _ (ReflectliteValue.methodAny (ReflectliteValue.valueError "reflectlite.Value.Type" 0) (fun t _ _ _ => ReflectliteType.toType t)) Tryd.func184 (by kernel_rfl) (by kernel_rfl) (by kernel_rfl) (by kernel_rfl)
  have h8 := @run_callFunc_extern Tryd.prog 185 _ (ReflectliteValue.method (ReflectliteValue.valueError "reflectlite.Value.IsNil" 0) ReflectliteValue.isNil) Tryd.func185 (by kernel_rfl) (by kernel_rfl) (by kernel_rfl) (by kernel_rfl)
  have h27 := @run_callFunc_extern Tryd.prog 232 _ (ReflectliteType.abiMethod fun t => do pure (.int .u8 (← Rtype.kind t))) Tryd.func232 (by kernel_rfl) (by kernel_rfl) (by kernel_rfl) (by kernel_rfl)
  have h37 := @run_callFunc_extern Tryd.prog 255 _ (ReflectliteType.method ReflectliteType.elem) Tryd.func255 (by kernel_rfl) (by kernel_rfl) (by kernel_rfl) (by kernel_rfl)
  have h38 := @run_callFunc_extern Tryd.prog 256 _ (ReflectliteType.relation "Implements" ReflectliteType.implements_) Tryd.func256 (by kernel_rfl) (by kernel_rfl) (by kernel_rfl) (by kernel_rfl)
  have h10 := @run_callFunc_extern Tryd.prog 171 _ ReflectliteType.typeOf Tryd.func171 (by kernel_rfl) (by kernel_rfl) (by kernel_rfl) (by kernel_rfl)
  have h35 := @run_callFunc_extern Tryd.prog 253 _ (ReflectliteType.relation "AssignableTo" ReflectliteType.assignableTo) Tryd.func253 (by kernel_rfl) (by kernel_rfl) (by kernel_rfl) (by kernel_rfl)
  have h11 := @run_callFunc_extern Tryd.prog 209 _ (ReflectliteValue.method (ReflectliteValue.valueError "reflectlite.Value.Elem" 0) ReflectliteValue.elem) Tryd.func209 (by kernel_rfl) (by kernel_rfl) (by kernel_rfl) (by kernel_rfl)
  have h12 := @run_callFunc_extern Tryd.prog 210 _ ReflectliteValue.set Tryd.func210 (by kernel_rfl) (by kernel_rfl) (by kernel_rfl) (by kernel_rfl)
  have tO := as_typeOfHour
  have mA := as_mAssign
  have a25 := as_assignCallHour
  have f6 := as_valuePCall
  have f7 := as_typePCall
  have mK := as_mKind
  have mE := as_mElem
  have mI := as_mImpl
  have k27 := as_kindPCall
  have k25 := as_kindCall
  have e27 := as_elemPCall
  have i25 := as_implCall
  have n8 := as_isNilCall ⟨w.heap.size, 0, none⟩ ⟨g, 0, none⟩ ((w.alloc (.cells #[.pointer (some ⟨g, 0, none⟩)] 185)).alloc (.cells #[tyH 185, .pointer (some ⟨w.heap.size, 0, none⟩), .int .u64 150] 236)) (by simp)
  have hg2 : (((w.alloc (.cells #[.pointer (some ⟨g, 0, none⟩)] 185)).alloc (.cells #[tyH 185, .pointer (some ⟨w.heap.size, 0, none⟩), .int .u64 150] 236))).cell? ⟨5, 0, none⟩ = some (.iface 263 (.agg #[tyH 86])) := errT_below hE (((Below.refl _ _).alloc (Nat.le_refl _) _).alloc (by simp) _)
  have nA := as_noAsHour
  have nU := as_noUHour
  have nV := as_noVHour
  go_enter Tryd.func139, Tryd.ntmps139
  go_wp2
  refine wp_loop_rounds 1 ?_
  rw [rounds_succ]
  go_wp2
  go_ret
  exact ⟨rfl, (((Below.refl _ _).alloc (Nat.le_refl _) _).alloc (by simp) _).alloc (by simp; omega) _⟩

set_option maxRecDepth 1000000 in
set_option maxHeartbeats 8000000 in
theorem as_Call_Floor (g : Nat) (cs : Array Value) (w : World) (hE : ErrT w) :
    Calls Tryd.prog 139 #[.iface 179 (.agg cs), .iface 185 (.pointer (some ⟨g, 0, none⟩))] w fun ev w' => ev = .returned (.bool false) ∧ Below w.heap.size w w' := by
  have h6 := @run_callFunc_extern Tryd.prog 183 _ (fun args => ReflectliteValue.unpack (args.getD 0 (.tuple #[]))) Tryd.func183 (by kernel_rfl) (by kernel_rfl) (by kernel_rfl) (by kernel_rfl)
  have h7 := @run_callFunc_extern Tryd.prog 184 _ (ReflectliteValue.methodAny (ReflectliteValue.valueError "reflectlite.Value.Type" 0) (fun t _ _ _ => ReflectliteType.toType t)) Tryd.func184 (by kernel_rfl) (by kernel_rfl) (by kernel_rfl) (by kernel_rfl)
  have h8 := @run_callFunc_extern Tryd.prog 185 _ (ReflectliteValue.method (ReflectliteValue.valueError "reflectlite.Value.IsNil" 0) ReflectliteValue.isNil) Tryd.func185 (by kernel_rfl) (by kernel_rfl) (by kernel_rfl) (by kernel_rfl)
  have h27 := @run_callFunc_extern Tryd.prog 232 _ (ReflectliteType.abiMethod fun t => do pure (.int .u8 (← Rtype.kind t))) Tryd.func232 (by kernel_rfl) (by kernel_rfl) (by kernel_rfl) (by kernel_rfl)
  have h37 := @run_callFunc_extern Tryd.prog 255 _ (ReflectliteType.method ReflectliteType.elem) Tryd.func255 (by kernel_rfl) (by kernel_rfl) (by kernel_rfl) (by kernel_rfl)
  have h38 := @run_callFunc_extern Tryd.prog 256 _ (ReflectliteType.relation "Implements" ReflectliteType.implements_) Tryd.func256 (by kernel_rfl) (by kernel_rfl) (by kernel_rfl) (by kernel_rfl)
  have h10 := @run_callFunc_extern Tryd.prog 171 _ ReflectliteType.typeOf Tryd.func171 (by kernel_rfl) (by kernel_rfl) (by kernel_rfl) (by kernel_rfl)
  have h35 := @run_callFunc_extern Tryd.prog 253 _ (ReflectliteType.relation "AssignableTo" ReflectliteType.assignableTo) Tryd.func253 (by kernel_rfl) (by kernel_rfl) (by kernel_rfl) (by kernel_rfl)
  have h11 := @run_callFunc_extern Tryd.prog 209 _ (ReflectliteValue.method (ReflectliteValue.valueError "reflectlite.Value.Elem" 0) ReflectliteValue.elem) Tryd.func209 (by kernel_rfl) (by kernel_rfl) (by kernel_rfl) (by kernel_rfl)
  have h12 := @run_callFunc_extern Tryd.prog 210 _ ReflectliteValue.set Tryd.func210 (by kernel_rfl) (by kernel_rfl) (by kernel_rfl) (by kernel_rfl)
  have tO := as_typeOfFloor
  have mA := as_mAssign
  have a25 := as_assignCallFloor
  have f6 := as_valuePCall
  have f7 := as_typePCall
  have mK := as_mKind
  have mE := as_mElem
  have mI := as_mImpl
  have k27 := as_kindPCall
  have k25 := as_kindCall
  have e27 := as_elemPCall
  have i25 := as_implCall
  have n8 := as_isNilCall ⟨w.heap.size, 0, none⟩ ⟨g, 0, none⟩ ((w.alloc (.cells #[.pointer (some ⟨g, 0, none⟩)] 185)).alloc (.cells #[tyH 185, .pointer (some ⟨w.heap.size, 0, none⟩), .int .u64 150] 236)) (by simp)
  have hg2 : (((w.alloc (.cells #[.pointer (some ⟨g, 0, none⟩)] 185)).alloc (.cells #[tyH 185, .pointer (some ⟨w.heap.size, 0, none⟩), .int .u64 150] 236))).cell? ⟨5, 0, none⟩ = some (.iface 263 (.agg #[tyH 86])) := errT_below hE (((Below.refl _ _).alloc (Nat.le_refl _) _).alloc (by simp) _)
  have nA := as_noAsFloor
  have nU := as_noUFloor
  have nV := as_noVFloor
  go_enter Tryd.func139, Tryd.ntmps139
  go_wp2
  refine wp_loop_rounds 1 ?_
  rw [rounds_succ]
  go_wp2
  go_ret
  exact ⟨rfl, (((Below.refl _ _).alloc (Nat.le_refl _) _).alloc (by simp) _).alloc (by simp; omega) _⟩

set_option maxRecDepth 1000000 in
set_option maxHeartbeats 8000000 in
theorem as_Hour_Call (g : Nat) (cs : Array Value) (w : World) (hE : ErrT w) :
    Calls Tryd.prog 139 #[.iface 181 (.agg cs), .iface 187 (.pointer (some ⟨g, 0, none⟩))] w fun ev w' => ev = .returned (.bool false) ∧ Below w.heap.size w w' := by
  have h6 := @run_callFunc_extern Tryd.prog 183 _ (fun args => ReflectliteValue.unpack (args.getD 0 (.tuple #[]))) Tryd.func183 (by kernel_rfl) (by kernel_rfl) (by kernel_rfl) (by kernel_rfl)
  have h7 := @run_callFunc_extern Tryd.prog 184 _ (ReflectliteValue.methodAny (ReflectliteValue.valueError "reflectlite.Value.Type" 0) (fun t _ _ _ => ReflectliteType.toType t)) Tryd.func184 (by kernel_rfl) (by kernel_rfl) (by kernel_rfl) (by kernel_rfl)
  have h8 := @run_callFunc_extern Tryd.prog 185 _ (ReflectliteValue.method (ReflectliteValue.valueError "reflectlite.Value.IsNil" 0) ReflectliteValue.isNil) Tryd.func185 (by kernel_rfl) (by kernel_rfl) (by kernel_rfl) (by kernel_rfl)
  have h27 := @run_callFunc_extern Tryd.prog 232 _ (ReflectliteType.abiMethod fun t => do pure (.int .u8 (← Rtype.kind t))) Tryd.func232 (by kernel_rfl) (by kernel_rfl) (by kernel_rfl) (by kernel_rfl)
  have h37 := @run_callFunc_extern Tryd.prog 255 _ (ReflectliteType.method ReflectliteType.elem) Tryd.func255 (by kernel_rfl) (by kernel_rfl) (by kernel_rfl) (by kernel_rfl)
  have h38 := @run_callFunc_extern Tryd.prog 256 _ (ReflectliteType.relation "Implements" ReflectliteType.implements_) Tryd.func256 (by kernel_rfl) (by kernel_rfl) (by kernel_rfl) (by kernel_rfl)
  have h10 := @run_callFunc_extern Tryd.prog 171 _ ReflectliteType.typeOf Tryd.func171 (by kernel_rfl) (by kernel_rfl) (by kernel_rfl) (by kernel_rfl)
  have h35 := @run_callFunc_extern Tryd.prog 253 _ (ReflectliteType.relation "AssignableTo" ReflectliteType.assignableTo) Tryd.func253 (by kernel_rfl) (by kernel_rfl) (by kernel_rfl) (by kernel_rfl)
  have h11 := @run_callFunc_extern Tryd.prog 209 _ (ReflectliteValue.method (ReflectliteValue.valueError "reflectlite.Value.Elem" 0) ReflectliteValue.elem) Tryd.func209 (by kernel_rfl) (by kernel_rfl) (by kernel_rfl) (by kernel_rfl)
  have h12 := @run_callFunc_extern Tryd.prog 210 _ ReflectliteValue.set Tryd.func210 (by kernel_rfl) (by kernel_rfl) (by kernel_rfl) (by kernel_rfl)
  have tO := as_typeOfCall
  have mA := as_mAssign
  have a25 := as_assignHourCall
  have f6 := as_valuePHour
  have f7 := as_typePHour
  have mK := as_mKind
  have mE := as_mElem
  have mI := as_mImpl
  have k27 := as_kindPHour
  have k25 := as_kindHour
  have e27 := as_elemPHour
  have i25 := as_implHour
  have n8 := as_isNilHour ⟨w.heap.size, 0, none⟩ ⟨g, 0, none⟩ ((w.alloc (.cells #[.pointer (some ⟨g, 0, none⟩)] 187)).alloc (.cells #[tyH 187, .pointer (some ⟨w.heap.size, 0, none⟩), .int .u64 150] 236)) (by simp)
  have hg2 : (((w.alloc (.cells #[.pointer (some ⟨g, 0, none⟩)] 187)).alloc (.cells #[tyH 187, .pointer (some ⟨w.heap.size, 0, none⟩), .int .u64 150] 236))).cell? ⟨5, 0, none⟩ = some (.iface 263 (.agg #[tyH 86])) := errT_below hE (((Below.refl _ _).alloc (Nat.le_refl _) _).alloc (by simp) _)
  have nA := as_noAsCall
  have nU := as_noUCall
  have nV := as_noVCall
  go_enter Tryd.func139, Tryd.ntmps139
  go_wp2
  refine wp_loop_rounds 1 ?_
  rw [rounds_succ]
  go_wp2
  go_ret
  exact ⟨rfl, (((Below.refl _ _).alloc (Nat.le_refl _) _).alloc (by simp) _).alloc (by simp; omega) _⟩

set_option maxRecDepth 1000000 in
set_option maxHeartbeats 8000000 in
theorem as_Hour_Hour (g : Nat) (cs zs : Array Value) (w : World) (hE : ErrT w) (ht : w.heap[g]? = some (.cells zs 183 (0, 0))) (hc : cs.size = 1) (hz : zs.size = 1) (h1 : ∀ v ∈ cs, v.oneCell' = true) :
    Calls Tryd.prog 139 #[.iface 183 (.agg cs), .iface 187 (.pointer (some ⟨g, 0, none⟩))] w fun ev w' => ev = .returned (.bool true) ∧ ∃ U, Below w.heap.size w U ∧ U.heap[g]? = some (.cells zs 183 (0, 0)) ∧ w' = U.setRow g cs := by
  have h6 := @run_callFunc_extern Tryd.prog 183 _ (fun args => ReflectliteValue.unpack (args.getD 0 (.tuple #[]))) Tryd.func183 (by kernel_rfl) (by kernel_rfl) (by kernel_rfl) (by kernel_rfl)
  have h7 := @run_callFunc_extern Tryd.prog 184 _ (ReflectliteValue.methodAny (ReflectliteValue.valueError "reflectlite.Value.Type" 0) (fun t _ _ _ => ReflectliteType.toType t)) Tryd.func184 (by kernel_rfl) (by kernel_rfl) (by kernel_rfl) (by kernel_rfl)
  have h8 := @run_callFunc_extern Tryd.prog 185 _ (ReflectliteValue.method (ReflectliteValue.valueError "reflectlite.Value.IsNil" 0) ReflectliteValue.isNil) Tryd.func185 (by kernel_rfl) (by kernel_rfl) (by kernel_rfl) (by kernel_rfl)
  have h27 := @run_callFunc_extern Tryd.prog 232 _ (ReflectliteType.abiMethod fun t => do pure (.int .u8 (← Rtype.kind t))) Tryd.func232 (by kernel_rfl) (by kernel_rfl) (by kernel_rfl) (by kernel_rfl)
  have h37 := @run_callFunc_extern Tryd.prog 255 _ (ReflectliteType.method ReflectliteType.elem) Tryd.func255 (by kernel_rfl) (by kernel_rfl) (by kernel_rfl) (by kernel_rfl)
  have h38 := @run_callFunc_extern Tryd.prog 256 _ (ReflectliteType.relation "Implements" ReflectliteType.implements_) Tryd.func256 (by kernel_rfl) (by kernel_rfl) (by kernel_rfl) (by kernel_rfl)
  have h10 := @run_callFunc_extern Tryd.prog 171 _ ReflectliteType.typeOf Tryd.func171 (by kernel_rfl) (by kernel_rfl) (by kernel_rfl) (by kernel_rfl)
  have h35 := @run_callFunc_extern Tryd.prog 253 _ (ReflectliteType.relation "AssignableTo" ReflectliteType.assignableTo) Tryd.func253 (by kernel_rfl) (by kernel_rfl) (by kernel_rfl) (by kernel_rfl)
  have h11 := @run_callFunc_extern Tryd.prog 209 _ (ReflectliteValue.method (ReflectliteValue.valueError "reflectlite.Value.Elem" 0) ReflectliteValue.elem) Tryd.func209 (by kernel_rfl) (by kernel_rfl) (by kernel_rfl) (by kernel_rfl)
  have h12 := @run_callFunc_extern Tryd.prog 210 _ ReflectliteValue.set Tryd.func210 (by kernel_rfl) (by kernel_rfl) (by kernel_rfl) (by kernel_rfl)
  have tO := as_typeOfHour
  have mA := as_mAssign
  have a25 := as_assignHourHour
  have f6 := as_valuePHour
  have f7 := as_typePHour
  have mK := as_mKind
  have mE := as_mElem
  have mI := as_mImpl
  have k27 := as_kindPHour
  have k25 := as_kindHour
  have e27 := as_elemPHour
  have i25 := as_implHour
  have n8 := as_isNilHour ⟨w.heap.size, 0, none⟩ ⟨g, 0, none⟩ ((w.alloc (.cells #[.pointer (some ⟨g, 0, none⟩)] 187)).alloc (.cells #[tyH 187, .pointer (some ⟨w.heap.size, 0, none⟩), .int .u64 150] 236)) (by simp)
  have hg2 : (((w.alloc (.cells #[.pointer (some ⟨g, 0, none⟩)] 187)).alloc (.cells #[tyH 187, .pointer (some ⟨w.heap.size, 0, none⟩), .int .u64 150] 236))).cell? ⟨5, 0, none⟩ = some (.iface 263 (.agg #[tyH 86])) := errT_below hE (((Below.refl _ _).alloc (Nat.le_refl _) _).alloc (by simp) _)
  have v25 := as_valueHour
  have htl := row_lt ht
  have el := as_elemVHour ⟨w.heap.size, 0, none⟩ ⟨g, 0, none⟩ (((w.alloc (.cells #[.pointer (some ⟨g, 0, none⟩)] 187)).alloc (.cells #[tyH 187, .pointer (some ⟨w.heap.size, 0, none⟩), .int .u64 150] 236)).alloc (.cells #[tyH 187, .pointer (some ⟨w.heap.size, 0, none⟩), .int .u64 150] 236)) (by rw [World.cell?_alloc_lt _ _ ⟨w.heap.size, 0, none⟩ (by simp; omega)]; simp)
  have hbel : Below w.heap.size w ((((w.alloc (.cells #[.pointer (some ⟨g, 0, none⟩)] 187)).alloc (.cells #[tyH 187, .pointer (some ⟨w.heap.size, 0, none⟩), .int .u64 150] 236)).alloc (.cells #[tyH 187, .pointer (some ⟨w.heap.size, 0, none⟩), .int .u64 150] 236)).alloc (.cells cs 183)) := ((((Below.refl _ _).alloc (Nat.le_refl _) _).alloc (by simp) _).alloc (by simp; omega) _).alloc (by simp; omega) _
  have hrow := below_row hbel ht
  have hnew : (((((w.alloc (.cells #[.pointer (some ⟨g, 0, none⟩)] 187)).alloc (.cells #[tyH 187, .pointer (some ⟨w.heap.size, 0, none⟩), .int .u64 150] 236)).alloc (.cells #[tyH 187, .pointer (some ⟨w.heap.size, 0, none⟩), .int .u64 150] 236)).alloc (.cells cs 183))).heap[w.heap.size + 1 + 1 + 1]? = some (.cells cs 183 (0, 0)) := by
    show (((((w.alloc (.cells #[.pointer (some ⟨g, 0, none⟩)] 187)).alloc (.cells #[tyH 187, .pointer (some ⟨w.heap.size, 0, none⟩), .int .u64 150] 236)).alloc (.cells #[tyH 187, .pointer (some ⟨w.heap.size, 0, none⟩), .int .u64 150] 236))).heap.push _)[w.heap.size + 1 + 1 + 1]? = _
    rw [Array.getElem?_push, if_pos (by simp)]
  have st := as_setHour g (w.heap.size + 1 + 1 + 1) cs zs ((((w.alloc (.cells #[.pointer (some ⟨g, 0, none⟩)] 187)).alloc (.cells #[tyH 187, .pointer (some ⟨w.heap.size, 0, none⟩), .int .u64 150] 236)).alloc (.cells #[tyH 187, .pointer (some ⟨w.heap.size, 0, none⟩), .int .u64 150] 236)).alloc (.cells cs 183)) hnew hrow hc hz h1
  have HB := Lib.hid (And.intro hbel hrow)
  clear hbel hrow hnew ht hc hz h1
  go_enter Tryd.func139, Tryd.ntmps139
  go_wp2
  refine wp_loop_rounds 1 ?_
  rw [rounds_succ]
  go_wp2
  go_ret
  exact ⟨rfl, _, HB.out.1, HB.out.2, rfl⟩

set_option maxRecDepth 1000000 in
set_option maxHeartbeats 8000000 in
theorem as_Hour_Floor (g : Nat) (cs : Array Value) (w : World) (hE : ErrT w) :
    Calls Tryd.prog 139 #[.iface 179 (.agg cs), .iface 187 (.pointer (some ⟨g, 0, none⟩))] w fun ev w' => ev = .returned (.bool false) ∧ Below w.heap.size w w' := by
  have h6 := @run_callFunc_extern Tryd.prog 183 _ (fun args => ReflectliteValue.unpack (args.getD 0 (.tuple #[]))) Tryd.func183 (by kernel_rfl) (by kernel_rfl) (by kernel_rfl) (by kernel_rfl)
  have h7 := @run_callFunc_extern Tryd.prog 184 _ (ReflectliteValue.methodAny (ReflectliteValue.valueError "reflectlite.Value.Type" 0) (fun t _ _ _ => ReflectliteType.toType t)) Tryd.func184 (by kernel_rfl) (by kernel_rfl) (by kernel_rfl) (by kernel_rfl)
  have h8 := @run_callFunc_extern Tryd.prog 185 _ (ReflectliteValue.method (ReflectliteValue.valueError "reflectlite.Value.IsNil" 0) ReflectliteValue.isNil) Tryd.func185 (by kernel_rfl) (by kernel_rfl) (by kernel_rfl) (by kernel_rfl)
  have h27 := @run_callFunc_extern Tryd.prog 232 _ (ReflectliteType.abiMethod fun t => do pure (.int .u8 (← Rtype.kind t))) Tryd.func232 (by kernel_rfl) (by kernel_rfl) (by kernel_rfl) (by kernel_rfl)
  have h37 := @run_callFunc_extern Tryd.prog 255 _ (ReflectliteType.method ReflectliteType.elem) Tryd.func255 (by kernel_rfl) (by kernel_rfl) (by kernel_rfl) (by kernel_rfl)
  have h38 := @run_callFunc_extern Tryd.prog 256 _ (ReflectliteType.relation "Implements" ReflectliteType.implements_) Tryd.func256 (by kernel_rfl) (by kernel_rfl) (by kernel_rfl) (by kernel_rfl)
  have h10 := @run_callFunc_extern Tryd.prog 171 _ ReflectliteType.typeOf Tryd.func171 (by kernel_rfl) (by kernel_rfl) (by kernel_rfl) (by kernel_rfl)
  have h35 := @run_callFunc_extern Tryd.prog 253 _ (ReflectliteType.relation "AssignableTo" ReflectliteType.assignableTo) Tryd.func253 (by kernel_rfl) (by kernel_rfl) (by kernel_rfl) (by kernel_rfl)
  have h11 := @run_callFunc_extern Tryd.prog 209 _ (ReflectliteValue.method (ReflectliteValue.valueError "reflectlite.Value.Elem" 0) ReflectliteValue.elem) Tryd.func209 (by kernel_rfl) (by kernel_rfl) (by kernel_rfl) (by kernel_rfl)
  have h12 := @run_callFunc_extern Tryd.prog 210 _ ReflectliteValue.set Tryd.func210 (by kernel_rfl) (by kernel_rfl) (by kernel_rfl) (by kernel_rfl)
  have tO := as_typeOfFloor
  have mA := as_mAssign
  have a25 := as_assignHourFloor
  have f6 := as_valuePHour
  have f7 := as_typePHour
  have mK := as_mKind
  have mE := as_mElem
  have mI := as_mImpl
  have k27 := as_kindPHour
  have k25 := as_kindHour
  have e27 := as_elemPHour
  have i25 := as_implHour
  have n8 := as_isNilHour ⟨w.heap.size, 0, none⟩ ⟨g, 0, none⟩ ((w.alloc (.cells #[.pointer (some ⟨g, 0, none⟩)] 187)).alloc (.cells #[tyH 187, .pointer (some ⟨w.heap.size, 0, none⟩), .int .u64 150] 236)) (by simp)
  have hg2 : (((w.alloc (.cells #[.pointer (some ⟨g, 0, none⟩)] 187)).alloc (.cells #[tyH 187, .pointer (some ⟨w.heap.size, 0, none⟩), .int .u64 150] 236))).cell? ⟨5, 0, none⟩ = some (.iface 263 (.agg #[tyH 86])) := errT_below hE (((Below.refl _ _).alloc (Nat.le_refl _) _).alloc (by simp) _)
  have nA := as_noAsFloor
  have nU := as_noUFloor
  have nV := as_noVFloor
  go_enter Tryd.func139, Tryd.ntmps139
  go_wp2
  refine wp_loop_rounds 1 ?_
  rw [rounds_succ]
  go_wp2
  go_ret
  exact ⟨rfl, (((Below.refl _ _).alloc (Nat.le_refl _) _).alloc (by simp) _).alloc (by simp; omega) _⟩

set_option maxRecDepth 1000000 in
set_option maxHeartbeats 8000000 in
theorem as_Floor_Call (g : Nat) (cs : Array Value) (w : World) (hE : ErrT w) :
    Calls Tryd.prog 139 #[.iface 181 (.agg cs), .iface 186 (.pointer (some ⟨g, 0, none⟩))] w fun ev w' => ev = .returned (.bool false) ∧ Below w.heap.size w w' := by
  have h6 := @run_callFunc_extern Tryd.prog 183 _ (fun args => ReflectliteValue.unpack (args.getD 0 (.tuple #[]))) Tryd.func183 (by kernel_rfl) (by kernel_rfl) (by kernel_rfl) (by kernel_rfl)
  have h7 := @run_callFunc_extern Tryd.prog 184 _ (ReflectliteValue.methodAny (ReflectliteValue.valueError "reflectlite.Value.Type" 0) (fun t _ _ _ => ReflectliteType.toType t)) Tryd.func184 (by kernel_rfl) (by kernel_rfl) (by kernel_rfl) (by kernel_rfl)
  have h8 := @run_callFunc_extern Tryd.prog 185 _ (ReflectliteValue.method (ReflectliteValue.valueError "reflectlite.Value.IsNil" 0) ReflectliteValue.isNil) Tryd.func185 (by kernel_rfl) (by kernel_rfl) (by kernel_rfl) (by kernel_rfl)
  have h27 := @run_callFunc_extern Tryd.prog 232 _ (ReflectliteType.abiMethod fun t => do pure (.int .u8 (← Rtype.kind t))) Tryd.func232 (by kernel_rfl) (by kernel_rfl) (by kernel_rfl) (by kernel_rfl)
  have h37 := @run_callFunc_extern Tryd.prog 255 _ (ReflectliteType.method ReflectliteType.elem) Tryd.func255 (by kernel_rfl) (by kernel_rfl) (by kernel_rfl) (by kernel_rfl)
  have h38 := @run_callFunc_extern Tryd.prog 256 _ (ReflectliteType.relation "Implements" ReflectliteType.implements_) Tryd.func256 (by kernel_rfl) (by kernel_rfl) (by kernel_rfl) (by kernel_rfl)
  have h10 := @run_callFunc_extern Tryd.prog 171 _ ReflectliteType.typeOf Tryd.func171 (by kernel_rfl) (by kernel_rfl) (by kernel_rfl) (by kernel_rfl)
  have h35 := @run_callFunc_extern Tryd.prog 253 _ (ReflectliteType.relation "AssignableTo" ReflectliteType.assignableTo) Tryd.func253 (by kernel_rfl) (by kernel_rfl) (by kernel_rfl) (by kernel_rfl)
  have h11 := @run_callFunc_extern Tryd.prog 209 _ (ReflectliteValue.method (ReflectliteValue.valueError "reflectlite.Value.Elem" 0) ReflectliteValue.elem) Tryd.func209 (by kernel_rfl) (by kernel_rfl) (by kernel_rfl) (by kernel_rfl)
  have h12 := @run_callFunc_extern Tryd.prog 210 _ ReflectliteValue.set Tryd.func210 (by kernel_rfl) (by kernel_rfl) (by kernel_rfl) (by kernel_rfl)
  have tO := as_typeOfCall
  have mA := as_mAssign
  have a25 := as_assignFloorCall
  have f6 := as_valuePFloor
  have f7 := as_typePFloor
  have mK := as_mKind
  have mE := as_mElem
  have mI := as_mImpl
  have k27 := as_kindPFloor
  have k25 := as_kindFloor
  have e27 := as_elemPFloor
  have i25 := as_implFloor
  have n8 := as_isNilFloor ⟨w.heap.size, 0, none⟩ ⟨g, 0, none⟩ ((w.alloc (.cells #[.pointer (some ⟨g, 0, none⟩)] 186)).alloc (.cells #[tyH 186, .pointer (some ⟨w.heap.size, 0, none⟩), .int .u64 150] 236)) (by simp)
  have hg2 : (((w.alloc (.cells #[.pointer (some ⟨g, 0, none⟩)] 186)).alloc (.cells #[tyH 186, .pointer (some ⟨w.heap.size, 0, none⟩), .int .u64 150] 236))).cell? ⟨5, 0, none⟩ = some (.iface 263 (.agg #[tyH 86])) := errT_below hE (((Below.refl _ _).alloc (Nat.le_refl _) _).alloc (by simp) _)
  have nA := as_noAsCall
  have nU := as_noUCall
  have nV := as_noVCall
  go_enter Tryd.func139, Tryd.ntmps139
  go_wp2
  refine wp_loop_rounds 1 ?_
  rw [rounds_succ]
  go_wp2
  go_ret
  exact ⟨rfl, (((Below.refl _ _).alloc (Nat.le_refl _) _).alloc (by simp) _).alloc (by simp; omega) _⟩

set_option maxRecDepth 1000000 in
set_option maxHeartbeats 8000000 in
theorem as_Floor_Hour (g : Nat) (cs : Array Value) (w : World) (hE : ErrT w) :
    Calls Tryd.prog 139 #[.iface 183 (.agg cs), .iface 186 (.pointer (some ⟨g, 0, none⟩))] w fun ev w' => ev = .returned (.bool false) ∧ Below w.heap.size w w' := by
  have h6 := @run_callFunc_extern Tryd.prog 183 _ (fun args => ReflectliteValue.unpack (args.getD 0 (.tuple #[]))) Tryd.func183 (by kernel_rfl) (by kernel_rfl) (by kernel_rfl) (by kernel_rfl)
  have h7 := @run_callFunc_extern Tryd.prog 184 _ (ReflectliteValue.methodAny (ReflectliteValue.valueError "reflectlite.Value.Type" 0) (fun t _ _ _ => ReflectliteType.toType t)) Tryd.func184 (by kernel_rfl) (by kernel_rfl) (by kernel_rfl) (by kernel_rfl)
  have h8 := @run_callFunc_extern Tryd.prog 185 _ (ReflectliteValue.method (ReflectliteValue.valueError "reflectlite.Value.IsNil" 0) ReflectliteValue.isNil) Tryd.func185 (by kernel_rfl) (by kernel_rfl) (by kernel_rfl) (by kernel_rfl)
  have h27 := @run_callFunc_extern Tryd.prog 232 _ (ReflectliteType.abiMethod fun t => do pure (.int .u8 (← Rtype.kind t))) Tryd.func232 (by kernel_rfl) (by kernel_rfl) (by kernel_rfl) (by kernel_rfl)
  have h37 := @run_callFunc_extern Tryd.prog 255 _ (ReflectliteType.method ReflectliteType.elem) Tryd.func255 (by kernel_rfl) (by kernel_rfl) (by kernel_rfl) (by kernel_rfl)
  have h38 := @run_callFunc_extern Tryd.prog 256 _ (ReflectliteType.relation "Implements" ReflectliteType.implements_) Tryd.func256 (by kernel_rfl) (by kernel_rfl) (by kernel_rfl) (by kernel_rfl)
  have h10 := @run_callFunc_extern Tryd.prog 171 _ ReflectliteType.typeOf Tryd.func171 (by kernel_rfl) (by kernel_rfl) (by kernel_rfl) (by kernel_rfl)
  have h35 := @run_callFunc_extern Tryd.prog 253 _ (ReflectliteType.relation "AssignableTo" ReflectliteType.assignableTo) Tryd.func253 (by kernel_rfl) (by kernel_rfl) (by kernel_rfl) (by kernel_rfl)
  have h11 := @run_callFunc_extern Tryd.prog 209 _ (ReflectliteValue.method (ReflectliteValue.valueError "reflectlite.Value.Elem" 0) ReflectliteValue.elem) Tryd.func209 (by kernel_rfl) (by kernel_rfl) (by kernel_rfl) (by kernel_rfl)
  have h12 := @run_callFunc_extern Tryd.prog 210 _ ReflectliteValue.set Tryd.func210 (by kernel_rfl) (by kernel_rfl) (by kernel_rfl) (by kernel_rfl)
  have tO := as_typeOfHour
  have mA := as_mAssign
  have a25 := as_assignFloorHour
  have f6 := as_valuePFloor
  have f7 := as_typePFloor
  have mK := as_mKind
  have mE := as_mElem
  have mI := as_mImpl
  have k27 := as_kindPFloor
  have k25 := as_kindFloor
  have e27 := as_elemPFloor
  have i25 := as_implFloor
  have n8 := as_isNilFloor ⟨w.heap.size, 0, none⟩ ⟨g, 0, none⟩ ((w.alloc (.cells #[.pointer (some ⟨g, 0, none⟩)] 186)).alloc (.cells #[tyH 186, .pointer (some ⟨w.heap.size, 0, none⟩), .int .u64 150] 236)) (by simp)
  have hg2 : (((w.alloc (.cells #[.pointer (some ⟨g, 0, none⟩)] 186)).alloc (.cells #[tyH 186, .pointer (some ⟨w.heap.size, 0, none⟩), .int .u64 150] 236))).cell? ⟨5, 0, none⟩ = some (.iface 263 (.agg #[tyH 86])) := errT_below hE (((Below.refl _ _).alloc (Nat.le_refl _) _).alloc (by simp) _)
  have nA := as_noAsHour
  have nU := as_noUHour
  have nV := as_noVHour
  go_enter Tryd.func139, Tryd.ntmps139
  go_wp2
  refine wp_loop_rounds 1 ?_
  rw [rounds_succ]
  go_wp2
  go_ret
  exact ⟨rfl, (((Below.refl _ _).alloc (Nat.le_refl _) _).alloc (by simp) _).alloc (by simp; omega) _⟩

set_option maxRecDepth 1000000 in
set_option maxHeartbeats 8000000 in
theorem as_Floor_Floor (g : Nat) (cs zs : Array Value) (w : World) (hE : ErrT w) (ht : w.heap[g]? = some (.cells zs 179 (0, 0))) (hc : cs.size = 24) (hz : zs.size = 24) (h1 : ∀ v ∈ cs, v.oneCell' = true) :
    Calls Tryd.prog 139 #[.iface 179 (.agg cs), .iface 186 (.pointer (some ⟨g, 0, none⟩))] w fun ev w' => ev = .returned (.bool true) ∧ ∃ U, Below w.heap.size w U ∧ U.heap[g]? = some (.cells zs 179 (0, 0)) ∧ w' = U.setRow g cs := by
  have h6 := @run_callFunc_extern Tryd.prog 183 _ (fun args => ReflectliteValue.unpack (args.getD 0 (.tuple #[]))) Tryd.func183 (by kernel_rfl) (by kernel_rfl) (by kernel_rfl) (by kernel_rfl)
  have h7 := @run_callFunc_extern Tryd.prog 184 _ (ReflectliteValue.methodAny (ReflectliteValue.valueError "reflectlite.Value.Type" 0) (fun t _ _ _ => ReflectliteType.toType t)) Tryd.func184 (by kernel_rfl) (by kernel_rfl) (by kernel_rfl) (by kernel_rfl)
  have h8 := @run_callFunc_extern Tryd.prog 185 _ (ReflectliteValue.method (ReflectliteValue.valueError "reflectlite.Value.IsNil" 0) ReflectliteValue.isNil) Tryd.func185 (by kernel_rfl) (by kernel_rfl) (by kernel_rfl) (by kernel_rfl)
  have h27 := @run_callFunc_extern Tryd.prog 232 _ (ReflectliteType.abiMethod fun t => do pure (.int .u8 (← Rtype.kind t))) Tryd.func232 (by kernel_rfl) (by kernel_rfl) (by kernel_rfl) (by kernel_rfl)
  have h37 := @run_callFunc_extern Tryd.prog 255 _ (ReflectliteType.method ReflectliteType.elem) Tryd.func255 (by kernel_rfl) (by kernel_rfl) (by kernel_rfl) (by kernel_rfl)
  have h38 := @run_callFunc_extern Tryd.prog 256 _ (ReflectliteType.relation "Implements" ReflectliteType.implements_) Tryd.func256 (by kernel_rfl) (by kernel_rfl) (by kernel_rfl) (by kernel_rfl)
  have h10 := @run_callFunc_extern Tryd.prog 171 _ ReflectliteType.typeOf Tryd.func171 (by kernel_rfl) (by kernel_rfl) (by kernel_rfl) (by kernel_rfl)
  have h35 := @run_callFunc_extern Tryd.prog 253 _ (ReflectliteType.relation "AssignableTo" ReflectliteType.assignableTo) Tryd.func253 (by kernel_rfl) (by kernel_rfl) (by kernel_rfl) (by kernel_rfl)
  have h11 := @run_callFunc_extern Tryd.prog 209 _ (ReflectliteValue.method (ReflectliteValue.valueError "reflectlite.Value.Elem" 0) ReflectliteValue.elem) Tryd.func209 (by kernel_rfl) (by kernel_rfl) (by kernel_rfl) (by kernel_rfl)
  have h12 := @run_callFunc_extern Tryd.prog 210 _ ReflectliteValue.set Tryd.func210 (by kernel_rfl) (by kernel_rfl) (by kernel_rfl) (by kernel_rfl)
  have tO := as_typeOfFloor
  have mA := as_mAssign
  have a25 := as_assignFloorFloor
  have f6 := as_valuePFloor
  have f7 := as_typePFloor
  have mK := as_mKind
  have mE := as_mElem
  have mI := as_mImpl
  have k27 := as_kindPFloor
  have k25 := as_kindFloor
  have e27 := as_elemPFloor
  have i25 := as_implFloor
  have n8 := as_isNilFloor ⟨w.heap.size, 0, none⟩ ⟨g, 0, none⟩ ((w.alloc (.cells #[.pointer (some ⟨g, 0, none⟩)] 186)).alloc (.cells #[tyH 186, .pointer (some ⟨w.heap.size, 0, none⟩), .int .u64 150] 236)) (by simp)
  have hg2 : (((w.alloc (.cells #[.pointer (some ⟨g, 0, none⟩)] 186)).alloc (.cells #[tyH 186, .pointer (some ⟨w.heap.size, 0, none⟩), .int .u64 150] 236))).cell? ⟨5, 0, none⟩ = some (.iface 263 (.agg #[tyH 86])) := errT_below hE (((Below.refl _ _).alloc (Nat.le_refl _) _).alloc (by simp) _)
  have v25 := as_valueFloor
  have htl := row_lt ht
  have el := as_elemVFloor ⟨w.heap.size, 0, none⟩ ⟨g, 0, none⟩ (((w.alloc (.cells #[.pointer (some ⟨g, 0, none⟩)] 186)).alloc (.cells #[tyH 186, .pointer (some ⟨w.heap.size, 0, none⟩), .int .u64 150] 236)).alloc (.cells #[tyH 186, .pointer (some ⟨w.heap.size, 0, none⟩), .int .u64 150] 236)) (by rw [World.cell?_alloc_lt _ _ ⟨w.heap.size, 0, none⟩ (by simp; omega)]; simp)
  have hbel : Below w.heap.size w ((((w.alloc (.cells #[.pointer (some ⟨g, 0, none⟩)] 186)).alloc (.cells #[tyH 186, .pointer (some ⟨w.heap.size, 0, none⟩), .int .u64 150] 236)).alloc (.cells #[tyH 186, .pointer (some ⟨w.heap.size, 0, none⟩), .int .u64 150] 236)).alloc (.cells cs 179)) := ((((Below.refl _ _).alloc (Nat.le_refl _) _).alloc (by simp) _).alloc (by simp; omega) _).alloc (by simp; omega) _
  have hrow := below_row hbel ht
  have hnew : (((((w.alloc (.cells #[.pointer (some ⟨g, 0, none⟩)] 186)).alloc (.cells #[tyH 186, .pointer (some ⟨w.heap.size, 0, none⟩), .int .u64 150] 236)).alloc (.cells #[tyH 186, .pointer (some ⟨w.heap.size, 0, none⟩), .int .u64 150] 236)).alloc (.cells cs 179))).heap[w.heap.size + 1 + 1 + 1]? = some (.cells cs 179 (0, 0)) := by
    show (((((w.alloc (.cells #[.pointer (some ⟨g, 0, none⟩)] 186)).alloc (.cells #[tyH 186, .pointer (some ⟨w.heap.size, 0, none⟩), .int .u64 150] 236)).alloc (.cells #[tyH 186, .pointer (some ⟨w.heap.size, 0, none⟩), .int .u64 150] 236))).heap.push _)[w.heap.size + 1 + 1 + 1]? = _
    rw [Array.getElem?_push, if_pos (by simp)]
  have st := as_setFloor g (w.heap.size + 1 + 1 + 1) cs zs ((((w.alloc (.cells #[.pointer (some ⟨g, 0, none⟩)] 186)).alloc (.cells #[tyH 186, .pointer (some ⟨w.heap.size, 0, none⟩), .int .u64 150] 236)).alloc (.cells #[tyH 186, .pointer (some ⟨w.heap.size, 0, none⟩), .int .u64 150] 236)).alloc (.cells cs 179)) hnew hrow hc hz h1
  have HB := Lib.hid (And.intro hbel hrow)
  clear hbel hrow hnew ht hc hz h1
  go_enter Tryd.func139, Tryd.ntmps139
  go_wp2
  refine wp_loop_rounds 1 ?_
  rw [rounds_succ]
  go_wp2
  go_ret
  exact ⟨rfl, _, HB.out.1, HB.out.2, rfl⟩

end Go.Proofs.YtmniodfdoidffaaDoor
