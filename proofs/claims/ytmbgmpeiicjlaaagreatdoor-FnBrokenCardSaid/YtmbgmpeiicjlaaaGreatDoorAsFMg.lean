/-
  AsF.
-/
import Derived.Test.YtmbgmpeiicjlaaaGreatDoorMt7
import Derived.Test.YtmbgmpeiicjlaaaGreatDoorMt1
import Derived.LaidEql
import Derived.Stop.Asserts
import Derived.Lib.Hide

namespace Go.Proofs.YtmbgmpeiicjlaaaGreatDoor

open Go.RowKit Go.Extern.Stop Go.Stop Go.Extern

theorem run_storeVar_row {P : Program} (w : World) (g : Nat) (ty t : TypeId) (vs old : Array Value) (hg : w.heap[g]? = some (.cells old t (0, 0))) (hi : (P.info? ty).map (·.size) = some vs.size) (hs : old.size = vs.size) (h1 : ∀ v ∈ vs, v.oneCell' = true) :
    (storeVar ty ⟨g, 0, none⟩ (.agg vs)).run P w = .ok () (w.setRow g vs) := by
  have hst := run_storeCells_at P g 0 t vs.toList 0 old w hg (by simp [hs]) (fun v hv => h1 v (by simpa using hv))
  cases hq : P.info? ty with
  | none => simp [hq] at hi
  | some i =>
    have hz : vs.size = i.size := by simp [hq] at hi; omega
    have hd : old.toList.drop vs.size = [] := List.drop_of_length_le (by simp [hs])
    simp only [Nat.add_zero] at hst
    simp [storeVar, sizeOf, typeInfo, hq, Value.cells, hz, hst]
    rw [← hz, ← hs]
    congr 1
    apply Array.ext'
    simp

/-- errors.As(nil, target). -/
theorem as_nil (t : Value) (w : World) :
    Calls Tryz.prog 69 #[.nilIface, t] w fun e w' => e = .returned (.bool false) ∧ w' = w := by
  go_enter Tryz.func69, Tryz.ntmps69
  go_wp2
  go_ret
  exact ⟨rfl, rfl⟩

theorem as_mKind (n : Nat) (h : Value) (w : World) : (Go.method (n + 1) 142 (.agg #[h]) "Kind").run Tryz.prog w = .ok (131, h) w := by kernel_rfl

theorem as_mElem (n : Nat) (h : Value) (w : World) : (Go.method (n + 1) 142 (.agg #[h]) "Elem").run Tryz.prog w = .ok (143, .agg #[h]) w := by kernel_rfl

theorem as_mImpl (n : Nat) (h : Value) (w : World) : (Go.method (n + 1) 142 (.agg #[h]) "Implements").run Tryz.prog w = .ok (144, .agg #[h]) w := by kernel_rfl

theorem as_mAssign (n : Nat) (h : Value) (w : World) : (Go.method (n + 1) 142 (.agg #[h]) "AssignableTo").run Tryz.prog w = .ok (141, .agg #[h]) w := by kernel_rfl

theorem rlm (z : Sem Value) (f : TypeId → Addr → Nat → Nat → Sem Value) (v : Value) :
    ReflectliteValue.method z f #[v] = (do match ← ReflectliteValue.parts v with | none => z | some (t, a, fl) => f t a fl (fl % 32)) := rfl

theorem rls (v x : Value) : ReflectliteValue.set #[v, x] = (do
    let (some (dst, a, fl), some (src, b, _)) := (← ReflectliteValue.parts v, ← ReflectliteValue.parts x)
      | unsupported (.noEntry "extern/(internal/reflectlite.Value).Set.zeroValue")
    if fl / ReflectliteValue.flagAddr % 2 == 0 then unsupported (.noEntry "extern/(internal/reflectlite.Value).Set.unaddressable")
    let val ← loadVar src b
    if ← Rtype.directlyAssignable dst src then storeVar dst a val
    else if ← Rtype.implements dst src then
      if (← Rtype.kind src) == 20 then
        match val with
        | .nilIface => unsupported (.noEntry "extern/reflectlite: a nil value of one interface type handed on as a value of another")
        | _ => storeVar dst a val
      else storeVar dst a (.iface src val)
    else panicString ("reflectlite.Set: value of type " ++ (← Rtype.spelt src) ++ " is not assignable to type " ++ (← Rtype.spelt dst))
    pure (.tuple #[])) := rfl

theorem as_valuePCall (t : Addr) (w : World) : (ReflectliteValue.unpack (.iface 108 (.pointer (some t)))).run Tryz.prog w = .ok (.agg #[tyH 108, .pointer (some ⟨w.heap.size, 0, none⟩), .int .u64 150]) (w.alloc (.cells #[.pointer (some t)] 108)) := by kernel_rfl

theorem as_typePCall (a : Addr) (w : World) : (ReflectliteValue.methodAny (ReflectliteValue.valueError "reflectlite.Value.Type" 0) (fun t _ _ _ => ReflectliteType.toType t) #[.agg #[tyH 108, .pointer (some a), .int .u64 150]]).run Tryz.prog w = .ok (.iface 142 (.agg #[tyH 108])) w := by kernel_rfl

theorem as_kindPCall (w : World) : ((ReflectliteType.abiMethod fun t => (fun a : Nat => Value.int IntKind.u8 (a : Int)) <$> Rtype.kind t) #[tyH 108]).run Tryz.prog w = .ok (.int .u8 22) w := by kernel_rfl

theorem as_kindCall (w : World) : ((ReflectliteType.abiMethod fun t => (fun a : Nat => Value.int IntKind.u8 (a : Int)) <$> Rtype.kind t) #[tyH 104]).run Tryz.prog w = .ok (.int .u8 25) w := by kernel_rfl

theorem as_partsPCall (a : Addr) (w : World) : (ReflectliteValue.parts (.agg #[tyH 108, .pointer (some a), .int .u64 150])).run Tryz.prog w = .ok (some (108, a, 150)) w := by kernel_rfl

theorem as_isNilCall (a p : Addr) (W : World) (ha : W.cell? a = some (.pointer (some p))) :
    (ReflectliteValue.method (ReflectliteValue.valueError "reflectlite.Value.IsNil" 0) ReflectliteValue.isNil #[.agg #[tyH 108, .pointer (some a), .int .u64 150]]).run Tryz.prog W = .ok (.bool false) W := by
  rw [rlm]
  simp only [Sem.run_bind, as_partsPCall, Result.andThen]
  simp [ReflectliteValue.isNil, loadVar, isAgg, underlying, Tryz.underlying108, ha, Result.andThen]

theorem as_elemPCall (w : World) : (ReflectliteType.method ReflectliteType.elem #[.agg #[tyH 108]]).run Tryz.prog w = .ok (.iface 142 (.agg #[tyH 104])) w := by kernel_rfl

theorem as_implCall (w : World) : (ReflectliteType.relation "Implements" ReflectliteType.implements_ #[.agg #[tyH 104], .iface 142 (.agg #[tyH 72])]).run Tryz.prog w = .ok (.bool true) w := by kernel_rfl

theorem as_typeOfCall (v : Value) (w : World) : (ReflectliteType.typeOf #[.iface 104 v]).run Tryz.prog w = .ok (.iface 142 (.agg #[tyH 104])) w := by kernel_rfl

theorem as_valueCall (cs : Array Value) (w : World) : (ReflectliteValue.unpack (.iface 104 (.agg cs))).run Tryz.prog w = .ok (.agg #[tyH 104, .pointer (some ⟨w.heap.size, 0, none⟩), .int .u64 153]) (w.alloc (.cells cs 104)) := by kernel_rfl

theorem as_elemOfCall (w : World) : (Rtype.elem? 108).run Tryz.prog w = .ok (some 104) w := by kernel_rfl

theorem as_mkCall (p : Addr) (w : World) : (ReflectliteValue.mk 104 p ReflectliteValue.flagAddr).run Tryz.prog w = .ok (.agg #[tyH 104, .pointer (some p), .int .u64 409]) w := by kernel_rfl

theorem as_elemVCall (a p : Addr) (W : World) (ha : W.cell? a = some (.pointer (some p))) :
    (ReflectliteValue.method (ReflectliteValue.valueError "reflectlite.Value.Elem" 0) ReflectliteValue.elem #[.agg #[tyH 108, .pointer (some a), .int .u64 150]]).run Tryz.prog W = .ok (.agg #[tyH 104, .pointer (some p), .int .u64 409]) W := by
  rw [rlm]
  simp only [Sem.run_bind, as_partsPCall, Result.andThen]
  simp [ReflectliteValue.elem, loadVar, isAgg, underlying, Tryz.underlying108, ha, Result.andThen, as_elemOfCall, as_mkCall]

theorem as_partsACall (a : Addr) (w : World) : (ReflectliteValue.parts (.agg #[tyH 104, .pointer (some a), .int .u64 409])).run Tryz.prog w = .ok (some (104, a, 409)) w := by kernel_rfl

theorem as_partsCall (a : Addr) (w : World) : (ReflectliteValue.parts (.agg #[tyH 104, .pointer (some a), .int .u64 153])).run Tryz.prog w = .ok (some (104, a, 153)) w := by kernel_rfl

theorem as_directCall (w : World) : (Rtype.directlyAssignable 104 104).run Tryz.prog w = .ok true w := by kernel_rfl

theorem as_infoCall : (Tryz.prog.info? 104).map (·.size) = some 1 := by kernel_rfl

/-- (Value).Set: the variable in the block g gets what the Value's own variable holds. -/
theorem as_setCall (g b : Nat) (cs zs : Array Value) (W : World) (hb : W.heap[b]? = some (.cells cs 104 (0, 0))) (hg : W.heap[g]? = some (.cells zs 104 (0, 0))) (hc : cs.size = 1) (hz : zs.size = 1) (h1 : ∀ v ∈ cs, v.oneCell' = true) :
    (ReflectliteValue.set #[.agg #[tyH 104, .pointer (some ⟨g, 0, none⟩), .int .u64 409], .agg #[tyH 104, .pointer (some ⟨b, 0, none⟩), .int .u64 153]]).run Tryz.prog W = .ok (.tuple #[]) (W.setRow g cs) := by
  have e1 := run_loadVar_row W b 104 104 cs (0, 0) _ hb Tryz.underlying104 rfl (by rw [hc]; exact as_infoCall)
  have e2 := run_storeVar_row (P := Tryz.prog) W g 104 104 cs zs hg (by rw [hc]; exact as_infoCall) (by rw [hz, hc]) h1
  rw [rls]
  simp only [Sem.run_bind, as_partsACall, as_partsCall, Result.andThen]
  simp [ReflectliteValue.flagAddr, e1, e2, Result.andThen, as_directCall]

theorem as_valuePHour (t : Addr) (w : World) : (ReflectliteValue.unpack (.iface 110 (.pointer (some t)))).run Tryz.prog w = .ok (.agg #[tyH 110, .pointer (some ⟨w.heap.size, 0, none⟩), .int .u64 150]) (w.alloc (.cells #[.pointer (some t)] 110)) := by kernel_rfl

theorem as_typePHour (a : Addr) (w : World) : (ReflectliteValue.methodAny (ReflectliteValue.valueError "reflectlite.Value.Type" 0) (fun t _ _ _ => ReflectliteType.toType t) #[.agg #[tyH 110, .pointer (some a), .int .u64 150]]).run Tryz.prog w = .ok (.iface 142 (.agg #[tyH 110])) w := by kernel_rfl

theorem as_kindPHour (w : World) : ((ReflectliteType.abiMethod fun t => (fun a : Nat => Value.int IntKind.u8 (a : Int)) <$> Rtype.kind t) #[tyH 110]).run Tryz.prog w = .ok (.int .u8 22) w := by kernel_rfl

theorem as_kindHour (w : World) : ((ReflectliteType.abiMethod fun t => (fun a : Nat => Value.int IntKind.u8 (a : Int)) <$> Rtype.kind t) #[tyH 106]).run Tryz.prog w = .ok (.int .u8 25) w := by kernel_rfl

theorem as_partsPHour (a : Addr) (w : World) : (ReflectliteValue.parts (.agg #[tyH 110, .pointer (some a), .int .u64 150])).run Tryz.prog w = .ok (some (110, a, 150)) w := by kernel_rfl

theorem as_isNilHour (a p : Addr) (W : World) (ha : W.cell? a = some (.pointer (some p))) :
    (ReflectliteValue.method (ReflectliteValue.valueError "reflectlite.Value.IsNil" 0) ReflectliteValue.isNil #[.agg #[tyH 110, .pointer (some a), .int .u64 150]]).run Tryz.prog W = .ok (.bool false) W := by
  rw [rlm]
  simp only [Sem.run_bind, as_partsPHour, Result.andThen]
  simp [ReflectliteValue.isNil, loadVar, isAgg, underlying, Tryz.underlying110, ha, Result.andThen]

theorem as_elemPHour (w : World) : (ReflectliteType.method ReflectliteType.elem #[.agg #[tyH 110]]).run Tryz.prog w = .ok (.iface 142 (.agg #[tyH 106])) w := by kernel_rfl

theorem as_implHour (w : World) : (ReflectliteType.relation "Implements" ReflectliteType.implements_ #[.agg #[tyH 106], .iface 142 (.agg #[tyH 72])]).run Tryz.prog w = .ok (.bool true) w := by kernel_rfl

theorem as_typeOfHour (v : Value) (w : World) : (ReflectliteType.typeOf #[.iface 106 v]).run Tryz.prog w = .ok (.iface 142 (.agg #[tyH 106])) w := by kernel_rfl

theorem as_valueHour (cs : Array Value) (w : World) : (ReflectliteValue.unpack (.iface 106 (.agg cs))).run Tryz.prog w = .ok (.agg #[tyH 106, .pointer (some ⟨w.heap.size, 0, none⟩), .int .u64 153]) (w.alloc (.cells cs 106)) := by kernel_rfl

theorem as_elemOfHour (w : World) : (Rtype.elem? 110).run Tryz.prog w = .ok (some 106) w := by kernel_rfl

theorem as_mkHour (p : Addr) (w : World) : (ReflectliteValue.mk 106 p ReflectliteValue.flagAddr).run Tryz.prog w = .ok (.agg #[tyH 106, .pointer (some p), .int .u64 409]) w := by kernel_rfl

theorem as_elemVHour (a p : Addr) (W : World) (ha : W.cell? a = some (.pointer (some p))) :
    (ReflectliteValue.method (ReflectliteValue.valueError "reflectlite.Value.Elem" 0) ReflectliteValue.elem #[.agg #[tyH 110, .pointer (some a), .int .u64 150]]).run Tryz.prog W = .ok (.agg #[tyH 106, .pointer (some p), .int .u64 409]) W := by
  rw [rlm]
  simp only [Sem.run_bind, as_partsPHour, Result.andThen]
  simp [ReflectliteValue.elem, loadVar, isAgg, underlying, Tryz.underlying110, ha, Result.andThen, as_elemOfHour, as_mkHour]

theorem as_partsAHour (a : Addr) (w : World) : (ReflectliteValue.parts (.agg #[tyH 106, .pointer (some a), .int .u64 409])).run Tryz.prog w = .ok (some (106, a, 409)) w := by kernel_rfl

theorem as_partsHour (a : Addr) (w : World) : (ReflectliteValue.parts (.agg #[tyH 106, .pointer (some a), .int .u64 153])).run Tryz.prog w = .ok (some (106, a, 153)) w := by kernel_rfl

theorem as_directHour (w : World) : (Rtype.directlyAssignable 106 106).run Tryz.prog w = .ok true w := by kernel_rfl

theorem as_infoHour : (Tryz.prog.info? 106).map (·.size) = some 1 := by kernel_rfl

theorem as_noAsHour (v : Value) (xT : TypeId) (w : World) : (Instr.typeAssert (.iface 106 v) xT 147 true).run Tryz.prog w = .ok (.tuple #[.nilIface, .bool false]) w := run_typeAssert_lacksB Tryz.underlying147 (by kernel_rfl) (by kernel_rfl) v xT w

theorem as_noUHour (v : Value) (xT : TypeId) (w : World) : (Instr.typeAssert (.iface 106 v) xT 150 true).run Tryz.prog w = .ok (.tuple #[.nilIface, .bool false]) w := run_typeAssert_lacksB Tryz.underlying150 (by kernel_rfl) (by kernel_rfl) v xT w

theorem as_noVHour (v : Value) (xT : TypeId) (w : World) : (Instr.typeAssert (.iface 106 v) xT 152 true).run Tryz.prog w = .ok (.tuple #[.nilIface, .bool false]) w := run_typeAssert_lacksB Tryz.underlying152 (by kernel_rfl) (by kernel_rfl) v xT w

/-- (Value).Set: the variable in the block g gets what the Value's own variable holds. -/
theorem as_setHour (g b : Nat) (cs zs : Array Value) (W : World) (hb : W.heap[b]? = some (.cells cs 106 (0, 0))) (hg : W.heap[g]? = some (.cells zs 106 (0, 0))) (hc : cs.size = 1) (hz : zs.size = 1) (h1 : ∀ v ∈ cs, v.oneCell' = true) :
    (ReflectliteValue.set #[.agg #[tyH 106, .pointer (some ⟨g, 0, none⟩), .int .u64 409], .agg #[tyH 106, .pointer (some ⟨b, 0, none⟩), .int .u64 153]]).run Tryz.prog W = .ok (.tuple #[]) (W.setRow g cs) := by
  have e1 := run_loadVar_row W b 106 106 cs (0, 0) _ hb Tryz.underlying106 rfl (by rw [hc]; exact as_infoHour)
  have e2 := run_storeVar_row (P := Tryz.prog) W g 106 106 cs zs hg (by rw [hc]; exact as_infoHour) (by rw [hz, hc]) h1
  rw [rls]
  simp only [Sem.run_bind, as_partsAHour, as_partsHour, Result.andThen]
  simp [ReflectliteValue.flagAddr, e1, e2, Result.andThen, as_directHour]

theorem as_valuePFloor (t : Addr) (w : World) : (ReflectliteValue.unpack (.iface 109 (.pointer (some t)))).run Tryz.prog w = .ok (.agg #[tyH 109, .pointer (some ⟨w.heap.size, 0, none⟩), .int .u64 150]) (w.alloc (.cells #[.pointer (some t)] 109)) := by kernel_rfl

theorem as_typePFloor (a : Addr) (w : World) : (ReflectliteValue.methodAny (ReflectliteValue.valueError "reflectlite.Value.Type" 0) (fun t _ _ _ => ReflectliteType.toType t) #[.agg #[tyH 109, .pointer (some a), .int .u64 150]]).run Tryz.prog w = .ok (.iface 142 (.agg #[tyH 109])) w := by kernel_rfl

theorem as_kindPFloor (w : World) : ((ReflectliteType.abiMethod fun t => (fun a : Nat => Value.int IntKind.u8 (a : Int)) <$> Rtype.kind t) #[tyH 109]).run Tryz.prog w = .ok (.int .u8 22) w := by kernel_rfl

theorem as_kindFloor (w : World) : ((ReflectliteType.abiMethod fun t => (fun a : Nat => Value.int IntKind.u8 (a : Int)) <$> Rtype.kind t) #[tyH 102]).run Tryz.prog w = .ok (.int .u8 25) w := by kernel_rfl

theorem as_partsPFloor (a : Addr) (w : World) : (ReflectliteValue.parts (.agg #[tyH 109, .pointer (some a), .int .u64 150])).run Tryz.prog w = .ok (some (109, a, 150)) w := by kernel_rfl

theorem as_isNilFloor (a p : Addr) (W : World) (ha : W.cell? a = some (.pointer (some p))) :
    (ReflectliteValue.method (ReflectliteValue.valueError "reflectlite.Value.IsNil" 0) ReflectliteValue.isNil #[.agg #[tyH 109, .pointer (some a), .int .u64 150]]).run Tryz.prog W = .ok (.bool false) W := by
  rw [rlm]
  simp only [Sem.run_bind, as_partsPFloor, Result.andThen]
  simp [ReflectliteValue.isNil, loadVar, isAgg, underlying, Tryz.underlying109, ha, Result.andThen]

theorem as_elemPFloor (w : World) : (ReflectliteType.method ReflectliteType.elem #[.agg #[tyH 109]]).run Tryz.prog w = .ok (.iface 142 (.agg #[tyH 102])) w := by kernel_rfl

theorem as_implFloor (w : World) : (ReflectliteType.relation "Implements" ReflectliteType.implements_ #[.agg #[tyH 102], .iface 142 (.agg #[tyH 72])]).run Tryz.prog w = .ok (.bool true) w := by kernel_rfl

theorem as_typeOfFloor (v : Value) (w : World) : (ReflectliteType.typeOf #[.iface 102 v]).run Tryz.prog w = .ok (.iface 142 (.agg #[tyH 102])) w := by kernel_rfl

theorem as_valueFloor (cs : Array Value) (w : World) : (ReflectliteValue.unpack (.iface 102 (.agg cs))).run Tryz.prog w = .ok (.agg #[tyH 102, .pointer (some ⟨w.heap.size, 0, none⟩), .int .u64 153]) (w.alloc (.cells cs 102)) := by kernel_rfl

theorem as_elemOfFloor (w : World) : (Rtype.elem? 109).run Tryz.prog w = .ok (some 102) w := by kernel_rfl

theorem as_mkFloor (p : Addr) (w : World) : (ReflectliteValue.mk 102 p ReflectliteValue.flagAddr).run Tryz.prog w = .ok (.agg #[tyH 102, .pointer (some p), .int .u64 409]) w := by kernel_rfl

theorem as_elemVFloor (a p : Addr) (W : World) (ha : W.cell? a = some (.pointer (some p))) :
    (ReflectliteValue.method (ReflectliteValue.valueError "reflectlite.Value.Elem" 0) ReflectliteValue.elem #[.agg #[tyH 109, .pointer (some a), .int .u64 150]]).run Tryz.prog W = .ok (.agg #[tyH 102, .pointer (some p), .int .u64 409]) W := by
  rw [rlm]
  simp only [Sem.run_bind, as_partsPFloor, Result.andThen]
  simp [ReflectliteValue.elem, loadVar, isAgg, underlying, Tryz.underlying109, ha, Result.andThen, as_elemOfFloor, as_mkFloor]

theorem as_partsAFloor (a : Addr) (w : World) : (ReflectliteValue.parts (.agg #[tyH 102, .pointer (some a), .int .u64 409])).run Tryz.prog w = .ok (some (102, a, 409)) w := by kernel_rfl

theorem as_partsFloor (a : Addr) (w : World) : (ReflectliteValue.parts (.agg #[tyH 102, .pointer (some a), .int .u64 153])).run Tryz.prog w = .ok (some (102, a, 153)) w := by kernel_rfl

theorem as_directFloor (w : World) : (Rtype.directlyAssignable 102 102).run Tryz.prog w = .ok true w := by kernel_rfl

theorem as_infoFloor : (Tryz.prog.info? 102).map (·.size) = some 24 := by kernel_rfl

theorem as_noAsFloor (v : Value) (xT : TypeId) (w : World) : (Instr.typeAssert (.iface 102 v) xT 147 true).run Tryz.prog w = .ok (.tuple #[.nilIface, .bool false]) w := run_typeAssert_lacksB Tryz.underlying147 (by kernel_rfl) (by kernel_rfl) v xT w

theorem as_noUFloor (v : Value) (xT : TypeId) (w : World) : (Instr.typeAssert (.iface 102 v) xT 150 true).run Tryz.prog w = .ok (.tuple #[.nilIface, .bool false]) w := run_typeAssert_lacksB Tryz.underlying150 (by kernel_rfl) (by kernel_rfl) v xT w

theorem as_noVFloor (v : Value) (xT : TypeId) (w : World) : (Instr.typeAssert (.iface 102 v) xT 152 true).run Tryz.prog w = .ok (.tuple #[.nilIface, .bool false]) w := run_typeAssert_lacksB Tryz.underlying152 (by kernel_rfl) (by kernel_rfl) v xT w

/-- (Value).Set: the variable in the block g gets what the Value's own variable holds. -/
theorem as_setFloor (g b : Nat) (cs zs : Array Value) (W : World) (hb : W.heap[b]? = some (.cells cs 102 (0, 0))) (hg : W.heap[g]? = some (.cells zs 102 (0, 0))) (hc : cs.size = 24) (hz : zs.size = 24) (h1 : ∀ v ∈ cs, v.oneCell' = true) :
    (ReflectliteValue.set #[.agg #[tyH 102, .pointer (some ⟨g, 0, none⟩), .int .u64 409], .agg #[tyH 102, .pointer (some ⟨b, 0, none⟩), .int .u64 153]]).run Tryz.prog W = .ok (.tuple #[]) (W.setRow g cs) := by
  have e1 := run_loadVar_row W b 102 102 cs (0, 0) _ hb Tryz.underlying102 rfl (by rw [hc]; exact as_infoFloor)
  have e2 := run_storeVar_row (P := Tryz.prog) W g 102 102 cs zs hg (by rw [hc]; exact as_infoFloor) (by rw [hz, hc]) h1
  rw [rls]
  simp only [Sem.run_bind, as_partsAFloor, as_partsFloor, Result.andThen]
  simp [ReflectliteValue.flagAddr, e1, e2, Result.andThen, as_directFloor]

theorem as_assignCallCall (w : World) : (ReflectliteType.relation "AssignableTo" ReflectliteType.assignableTo #[.agg #[tyH 104], .iface 142 (.agg #[tyH 104])]).run Tryz.prog w = .ok (.bool true) w := by kernel_rfl

theorem as_assignCallHour (w : World) : (ReflectliteType.relation "AssignableTo" ReflectliteType.assignableTo #[.agg #[tyH 106], .iface 142 (.agg #[tyH 104])]).run Tryz.prog w = .ok (.bool false) w := by kernel_rfl

theorem as_assignCallFloor (w : World) : (ReflectliteType.relation "AssignableTo" ReflectliteType.assignableTo #[.agg #[tyH 102], .iface 142 (.agg #[tyH 104])]).run Tryz.prog w = .ok (.bool false) w := by kernel_rfl

theorem as_assignHourHour (w : World) : (ReflectliteType.relation "AssignableTo" ReflectliteType.assignableTo #[.agg #[tyH 106], .iface 142 (.agg #[tyH 106])]).run Tryz.prog w = .ok (.bool true) w := by kernel_rfl

theorem as_assignFloorHour (w : World) : (ReflectliteType.relation "AssignableTo" ReflectliteType.assignableTo #[.agg #[tyH 106], .iface 142 (.agg #[tyH 102])]).run Tryz.prog w = .ok (.bool false) w := by kernel_rfl

theorem as_assignFloorFloor (w : World) : (ReflectliteType.relation "AssignableTo" ReflectliteType.assignableTo #[.agg #[tyH 102], .iface 142 (.agg #[tyH 102])]).run Tryz.prog w = .ok (.bool true) w := by kernel_rfl

end Go.Proofs.YtmbgmpeiicjlaaaGreatDoor
