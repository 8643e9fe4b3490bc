/-
  errors.As of refusals of three types, at targets of these types: the facts.

-/
import Derived.Test.YtddnfbpgldchcaaGreatDoorLawH
import Derived.Test.YtddnfbpgldchcaaGreatDoorRow
import Derived.LaidEql
import Derived.Stop.Asserts
import Derived.Lib.Hide

namespace Go.Proofs.YtddnfbpgldchcaaGreatDoor

open Go.RowKit Go.Extern.Stop Go.Stop Go.Extern

theorem run_storeVar_row {P : Program} (w : World) (g : Nat) (ty t : TypeId) (vs old : Array Value) (hg : w.heap[g]? = some (.cells old t (0, 0))) (hi : (P.info? ty).map (·.size) = some vs.size) (hs : old.size = vs.size) (h1 : ∀ v ∈ vs, v.oneCell' = true) :
    (storeVar ty ⟨g, 0, none⟩ (.agg vs)).run P w = .ok () (w.setRow g vs) := by
  have hst := run_storeCells_at P g 0 t vs.toList 0 old w hg (by simp [hs]) (fun v hv => h1 v (by simpa using hv))
  cases hq : P.info? ty with
  | none => simp [hq] at hi
  | some i =>
    have hz : vs.size = i.size := by simp [hq] at hi; omega
    have hd : old.toList.drop vs.size = [] := List.drop_of_length_le (by simp [hs])
    simp only [Nat.add_zero] at hst
    simp [storeVar, sizeOf, typeInfo, hq, Value.cells, hz, hst]
    rw [← hz, ← hs]
    congr 1
    apply Array.ext'
    simp

theorem as_mKind (n : Nat) (h : Value) (w : World) : (Go.method (n + 1) 240 (.agg #[h]) "Kind").run Tryz.prog w = .ok (204, h) w := by kernel_rfl

theorem as_mElem (n : Nat) (h : Value) (w : World) : (Go.method (n + 1) 240 (.agg #[h]) "Elem").run Tryz.prog w = .ok (218, .agg #[h]) w := by kernel_rfl

theorem as_mImpl (n : Nat) (h : Value) (w : World) : (Go.method (n + 1) 240 (.agg #[h]) "Implements").run Tryz.prog w = .ok (219, .agg #[h]) w := by kernel_rfl

theorem as_mAssign (n : Nat) (h : Value) (w : World) : (Go.method (n + 1) 240 (.agg #[h]) "AssignableTo").run Tryz.prog w = .ok (216, .agg #[h]) w := by kernel_rfl

theorem rlm (z : Sem Value) (f : TypeId → Addr → Nat → Nat → Sem Value) (v : Value) :
    ReflectliteValue.method z f #[v] = (do match ← ReflectliteValue.parts v with | none => z | some (t, a, fl) => f t a fl (fl % 32)) := rfl

theorem rls (v x : Value) : ReflectliteValue.set #[v, x] = (do
    let (some (dst, a, fl), some (src, b, _)) := (← ReflectliteValue.parts v, ← ReflectliteValue.parts x)
      | unsupported (.noEntry "extern/(internal/reflectlite.Value).Set.zeroValue")
    if fl / ReflectliteValue.flagAddr % 2 == 0 then unsupported (.noEntry "extern/(internal/reflectlite.Value).Set.unaddressable")
    let val ← loadVar src b
    if ← Rtype.directlyAssignable dst src then storeVar dst a val
    else if ← Rtype.implements dst src then
      if (← Rtype.kind src) == 20 then
        match val with
        | .nilIface => unsupported (.noEntry "extern/reflectlite: a nil value of one interface type handed on as a value of another")
        | _ => storeVar dst a val
      else storeVar dst a (.iface src val)
    else panicString ("reflectlite.Set: value of type " ++ (← Rtype.spelt src) ++ " is not assignable to type " ++ (← Rtype.spelt dst))
    pure (.tuple #[])) := rfl

theorem as_valuePCall (t : Addr) (w : World) : (ReflectliteValue.unpack (.iface 195 (.pointer (some t)))).run Tryz.prog w = .ok (.agg #[tyH 195, .pointer (some ⟨w.heap.size, 0, none⟩), .int .u64 150]) (w.alloc (.cells #[.pointer (some t)] 195)) := by kernel_rfl

theorem as_typePCall (a : Addr) (w : World) : (ReflectliteValue.methodAny (ReflectliteValue.valueError "reflectlite.Value.Type" 0) (fun t _ _ _ => ReflectliteType.toType t) #[.agg #[tyH 195, .pointer (some a), .int .u64 150]]).run Tryz.prog w = .ok (.iface 240 (.agg #[tyH 195])) w := by kernel_rfl

theorem as_kindPCall (w : World) : ((ReflectliteType.abiMethod fun t => (fun a : Nat => Value.int IntKind.u8 (a : Int)) <$> Rtype.kind t) #[tyH 195]).run Tryz.prog w = .ok (.int .u8 22) w := by kernel_rfl

theorem as_kindCall (w : World) : ((ReflectliteType.abiMethod fun t => (fun a : Nat => Value.int IntKind.u8 (a : Int)) <$> Rtype.kind t) #[tyH 189]).run Tryz.prog w = .ok (.int .u8 25) w := by kernel_rfl

theorem as_partsPCall (a : Addr) (w : World) : (ReflectliteValue.parts (.agg #[tyH 195, .pointer (some a), .int .u64 150])).run Tryz.prog w = .ok (some (195, a, 150)) w := by kernel_rfl

theorem as_isNilCall (a p : Addr) (W : World) (ha : W.cell? a = some (.pointer (some p))) :
    (ReflectliteValue.method (ReflectliteValue.valueError "reflectlite.Value.IsNil" 0) ReflectliteValue.isNil #[.agg #[tyH 195, .pointer (some a), .int .u64 150]]).run Tryz.prog W = .ok (.bool false) W := by
  rw [rlm]
  simp only [Sem.run_bind, as_partsPCall, Result.andThen]
  simp [ReflectliteValue.isNil, loadVar, isAgg, underlying, Tryz.underlying195, ha, Result.andThen]

theorem as_elemPCall (w : World) : (ReflectliteType.method ReflectliteType.elem #[.agg #[tyH 195]]).run Tryz.prog w = .ok (.iface 240 (.agg #[tyH 189])) w := by kernel_rfl

theorem as_implCall (w : World) : (ReflectliteType.relation "Implements" ReflectliteType.implements_ #[.agg #[tyH 189], .iface 240 (.agg #[tyH 114])]).run Tryz.prog w = .ok (.bool true) w := by kernel_rfl

theorem as_valuePHour (t : Addr) (w : World) : (ReflectliteValue.unpack (.iface 197 (.pointer (some t)))).run Tryz.prog w = .ok (.agg #[tyH 197, .pointer (some ⟨w.heap.size, 0, none⟩), .int .u64 150]) (w.alloc (.cells #[.pointer (some t)] 197)) := by kernel_rfl

theorem as_typePHour (a : Addr) (w : World) : (ReflectliteValue.methodAny (ReflectliteValue.valueError "reflectlite.Value.Type" 0) (fun t _ _ _ => ReflectliteType.toType t) #[.agg #[tyH 197, .pointer (some a), .int .u64 150]]).run Tryz.prog w = .ok (.iface 240 (.agg #[tyH 197])) w := by kernel_rfl

theorem as_kindPHour (w : World) : ((ReflectliteType.abiMethod fun t => (fun a : Nat => Value.int IntKind.u8 (a : Int)) <$> Rtype.kind t) #[tyH 197]).run Tryz.prog w = .ok (.int .u8 22) w := by kernel_rfl

theorem as_kindHour (w : World) : ((ReflectliteType.abiMethod fun t => (fun a : Nat => Value.int IntKind.u8 (a : Int)) <$> Rtype.kind t) #[tyH 191]).run Tryz.prog w = .ok (.int .u8 25) w := by kernel_rfl

theorem as_partsPHour (a : Addr) (w : World) : (ReflectliteValue.parts (.agg #[tyH 197, .pointer (some a), .int .u64 150])).run Tryz.prog w = .ok (some (197, a, 150)) w := by kernel_rfl

theorem as_isNilHour (a p : Addr) (W : World) (ha : W.cell? a = some (.pointer (some p))) :
    (ReflectliteValue.method (ReflectliteValue.valueError "reflectlite.Value.IsNil" 0) ReflectliteValue.isNil #[.agg #[tyH 197, .pointer (some a), .int .u64 150]]).run Tryz.prog W = .ok (.bool false) W := by
  rw [rlm]
  simp only [Sem.run_bind, as_partsPHour, Result.andThen]
  simp [ReflectliteValue.isNil, loadVar, isAgg, underlying, Tryz.underlying197, ha, Result.andThen]

theorem as_elemPHour (w : World) : (ReflectliteType.method ReflectliteType.elem #[.agg #[tyH 197]]).run Tryz.prog w = .ok (.iface 240 (.agg #[tyH 191])) w := by kernel_rfl

theorem as_implHour (w : World) : (ReflectliteType.relation "Implements" ReflectliteType.implements_ #[.agg #[tyH 191], .iface 240 (.agg #[tyH 114])]).run Tryz.prog w = .ok (.bool true) w := by kernel_rfl

theorem as_typeOfHour (v : Value) (w : World) : (ReflectliteType.typeOf #[.iface 191 v]).run Tryz.prog w = .ok (.iface 240 (.agg #[tyH 191])) w := by kernel_rfl

theorem as_valueHour (cs : Array Value) (w : World) : (ReflectliteValue.unpack (.iface 191 (.agg cs))).run Tryz.prog w = .ok (.agg #[tyH 191, .pointer (some ⟨w.heap.size, 0, none⟩), .int .u64 153]) (w.alloc (.cells cs 191)) := by kernel_rfl

theorem as_elemOfHour (w : World) : (Rtype.elem? 197).run Tryz.prog w = .ok (some 191) w := by kernel_rfl

theorem as_mkHour (p : Addr) (w : World) : (ReflectliteValue.mk 191 p ReflectliteValue.flagAddr).run Tryz.prog w = .ok (.agg #[tyH 191, .pointer (some p), .int .u64 409]) w := by kernel_rfl

theorem as_elemVHour (a p : Addr) (W : World) (ha : W.cell? a = some (.pointer (some p))) :
    (ReflectliteValue.method (ReflectliteValue.valueError "reflectlite.Value.Elem" 0) ReflectliteValue.elem #[.agg #[tyH 197, .pointer (some a), .int .u64 150]]).run Tryz.prog W = .ok (.agg #[tyH 191, .pointer (some p), .int .u64 409]) W := by
  rw [rlm]
  simp only [Sem.run_bind, as_partsPHour, Result.andThen]
  simp [ReflectliteValue.elem, loadVar, isAgg, underlying, Tryz.underlying197, ha, Result.andThen, as_elemOfHour, as_mkHour]

theorem as_partsAHour (a : Addr) (w : World) : (ReflectliteValue.parts (.agg #[tyH 191, .pointer (some a), .int .u64 409])).run Tryz.prog w = .ok (some (191, a, 409)) w := by kernel_rfl

theorem as_partsHour (a : Addr) (w : World) : (ReflectliteValue.parts (.agg #[tyH 191, .pointer (some a), .int .u64 153])).run Tryz.prog w = .ok (some (191, a, 153)) w := by kernel_rfl

theorem as_directHour (w : World) : (Rtype.directlyAssignable 191 191).run Tryz.prog w = .ok true w := by kernel_rfl

theorem as_infoHour : (Tryz.prog.info? 191).map (·.size) = some 1 := by kernel_rfl

theorem as_noAsHour (v : Value) (xT : TypeId) (w : World) : (Instr.typeAssert (.iface 191 v) xT 245 true).run Tryz.prog w = .ok (.tuple #[.nilIface, .bool false]) w := run_typeAssert_lacksB Tryz.underlying245 (by kernel_rfl) (by kernel_rfl) v xT w

theorem as_noUHour (v : Value) (xT : TypeId) (w : World) : (Instr.typeAssert (.iface 191 v) xT 248 true).run Tryz.prog w = .ok (.tuple #[.nilIface, .bool false]) w := run_typeAssert_lacksB Tryz.underlying248 (by kernel_rfl) (by kernel_rfl) v xT w

theorem as_noVHour (v : Value) (xT : TypeId) (w : World) : (Instr.typeAssert (.iface 191 v) xT 249 true).run Tryz.prog w = .ok (.tuple #[.nilIface, .bool false]) w := run_typeAssert_lacksB Tryz.underlying249 (by kernel_rfl) (by kernel_rfl) v xT w

/-- (Value).Set: the variable in the block g gets what the Value's own variable holds. -/
theorem as_setHour (g b : Nat) (cs zs : Array Value) (W : World) (hb : W.heap[b]? = some (.cells cs 191 (0, 0))) (hg : W.heap[g]? = some (.cells zs 191 (0, 0))) (hc : cs.size = 1) (hz : zs.size = 1) (h1 : ∀ v ∈ cs, v.oneCell' = true) :
    (ReflectliteValue.set #[.agg #[tyH 191, .pointer (some ⟨g, 0, none⟩), .int .u64 409], .agg #[tyH 191, .pointer (some ⟨b, 0, none⟩), .int .u64 153]]).run Tryz.prog W = .ok (.tuple #[]) (W.setRow g cs) := by
  have e1 := run_loadVar_row W b 191 191 cs (0, 0) _ hb Tryz.underlying191 rfl (by rw [hc]; exact as_infoHour)
  have e2 := run_storeVar_row (P := Tryz.prog) W g 191 191 cs zs hg (by rw [hc]; exact as_infoHour) (by rw [hz, hc]) h1
  rw [rls]
  simp only [Sem.run_bind, as_partsAHour, as_partsHour, Result.andThen]
  simp [ReflectliteValue.flagAddr, e1, e2, Result.andThen, as_directHour]

theorem as_valuePFloor (t : Addr) (w : World) : (ReflectliteValue.unpack (.iface 196 (.pointer (some t)))).run Tryz.prog w = .ok (.agg #[tyH 196, .pointer (some ⟨w.heap.size, 0, none⟩), .int .u64 150]) (w.alloc (.cells #[.pointer (some t)] 196)) := by kernel_rfl

theorem as_typePFloor (a : Addr) (w : World) : (ReflectliteValue.methodAny (ReflectliteValue.valueError "reflectlite.Value.Type" 0) (fun t _ _ _ => ReflectliteType.toType t) #[.agg #[tyH 196, .pointer (some a), .int .u64 150]]).run Tryz.prog w = .ok (.iface 240 (.agg #[tyH 196])) w := by kernel_rfl

theorem as_kindPFloor (w : World) : ((ReflectliteType.abiMethod fun t => (fun a : Nat => Value.int IntKind.u8 (a : Int)) <$> Rtype.kind t) #[tyH 196]).run Tryz.prog w = .ok (.int .u8 22) w := by kernel_rfl

theorem as_kindFloor (w : World) : ((ReflectliteType.abiMethod fun t => (fun a : Nat => Value.int IntKind.u8 (a : Int)) <$> Rtype.kind t) #[tyH 193]).run Tryz.prog w = .ok (.int .u8 25) w := by kernel_rfl

theorem as_partsPFloor (a : Addr) (w : World) : (ReflectliteValue.parts (.agg #[tyH 196, .pointer (some a), .int .u64 150])).run Tryz.prog w = .ok (some (196, a, 150)) w := by kernel_rfl

theorem as_isNilFloor (a p : Addr) (W : World) (ha : W.cell? a = some (.pointer (some p))) :
    (ReflectliteValue.method (ReflectliteValue.valueError "reflectlite.Value.IsNil" 0) ReflectliteValue.isNil #[.agg #[tyH 196, .pointer (some a), .int .u64 150]]).run Tryz.prog W = .ok (.bool false) W := by
  rw [rlm]
  simp only [Sem.run_bind, as_partsPFloor, Result.andThen]
  simp [ReflectliteValue.isNil, loadVar, isAgg, underlying, Tryz.underlying196, ha, Result.andThen]

theorem as_elemPFloor (w : World) : (ReflectliteType.method ReflectliteType.elem #[.agg #[tyH 196]]).run Tryz.prog w = .ok (.iface 240 (.agg #[tyH 193])) w := by kernel_rfl

theorem as_implFloor (w : World) : (ReflectliteType.relation "Implements" ReflectliteType.implements_ #[.agg #[tyH 193], .iface 240 (.agg #[tyH 114])]).run Tryz.prog w = .ok (.bool true) w := by kernel_rfl

theorem as_assignCallHour (w : World) : (ReflectliteType.relation "AssignableTo" ReflectliteType.assignableTo #[.agg #[tyH 191], .iface 240 (.agg #[tyH 189])]).run Tryz.prog w = .ok (.bool false) w := by kernel_rfl

theorem as_assignHourHour (w : World) : (ReflectliteType.relation "AssignableTo" ReflectliteType.assignableTo #[.agg #[tyH 191], .iface 240 (.agg #[tyH 191])]).run Tryz.prog w = .ok (.bool true) w := by kernel_rfl

theorem as_assignFloorHour (w : World) : (ReflectliteType.relation "AssignableTo" ReflectliteType.assignableTo #[.agg #[tyH 191], .iface 240 (.agg #[tyH 193])]).run Tryz.prog w = .ok (.bool false) w := by kernel_rfl

end Go.Proofs.YtddnfbpgldchcaaGreatDoor
