/-
  Rooms and windows in memory: laws for reading them.
-/
import Derived.Test.YtddnfbpgldchcaaDoorRoomP
import Derived.Test.YtddnfbpgldchcaaDoorTileA
import Derived.Test.YtddnfbpgldchcaaDoorTake
import Derived.Laws.Rows
namespace Go.Proofs.YtddnfbpgldchcaaDoor
open Go.RowKit

theorem info_room : (Tryd.prog.info? 33).map (·.size) = some 3 := by kernel_rfl
theorem info_roomL : (Tryd.prog.info? 25).map (·.size) = some 3 := by kernel_rfl
theorem info_win : (Tryd.prog.info? 68).map (·.size) = some 3 := by kernel_rfl
theorem info_winL : (Tryd.prog.info? 70).map (·.size) = some 3 := by kernel_rfl
theorem room_fits (wd hg : Int) (sv : Value) : 0 + 3 ≤ (roomC wd hg sv).size := Nat.le_refl _
theorem room_all (wd hg : Int) (sv : Value) : (roomC wd hg sv).extract 0 (0 + 3) = roomC wd hg sv := rfl
theorem win_fits (x : Wn) : 0 + 3 ≤ (winC x).size := Nat.le_refl _
theorem win_all (x : Wn) : (winC x).extract 0 (0 + 3) = winC x := rfl
theorem win_one (x : Wn) : ∀ v ∈ winC x, v.oneCell' = true := by
  intro v hv
  simp only [winC, List.mem_toArray, List.mem_cons, List.not_mem_nil, or_false] at hv
  rcases hv with rfl | rfl | rfl <;> rfl
theorem room_cells {wd hg : Int} {sv : Value} {W : World} {g : Nat} {T : TypeId} {fr : Nat × Nat} (h : W.heap[g]? = some (.cells (roomC wd hg sv) T fr)) :
    W.cell? ⟨g, 0, none⟩ = some (.int .i8 wd) ∧ W.cell? ⟨g, 1, none⟩ = some (.int .i8 hg) ∧ W.cell? ⟨g, 2, none⟩ = some sv :=
  ⟨by rw [cell_of_row W _ _ _ _ _ h]; rfl, by rw [cell_of_row W _ _ _ _ _ h]; rfl, by rw [cell_of_row W _ _ _ _ _ h]; rfl⟩
theorem win_cells {x : Wn} {W : World} {g : Nat} {T : TypeId} {fr : Nat × Nat} (h : W.heap[g]? = some (.cells (winC x) T fr)) :
    W.cell? ⟨g, 0, none⟩ = some (.int .i8 x.1) ∧ W.cell? ⟨g, 1, none⟩ = some (.int .i8 x.2.1) ∧ W.cell? ⟨g, 2, none⟩ = some (.float .f32 x.2.2) :=
  ⟨by rw [cell_of_row W _ _ _ _ _ h]; rfl, by rw [cell_of_row W _ _ _ _ _ h]; rfl, by rw [cell_of_row W _ _ _ _ _ h]; rfl⟩

section
variable {P : Program}
theorem run_loadVar_cells (w : World) (g off n : Nat) (ty : TypeId) (d : TypeDesc) (hu : P.underlying ty = some d) (hd : (match d with | .struct _ | .array _ _ => true | _ => false) = true) (hi : (P.info? ty).map (·.size) = some n)
    (vs : Array Value) (hn : vs.size = n) (hc : ∀ j v, vs[j]? = some v → w.cell? ⟨g, off + j, none⟩ = some v) : (loadVar ty ⟨g, off, none⟩).run P w = .ok (.agg vs) w := by
  have hl : (loadCells ⟨g, off, none⟩ n).run P w = .ok vs w := by
    have h := run_loadCells_list (P := P) w ⟨g, off, none⟩ vs.toList (fun j v hv => by
      rw [addr_add]
      exact hc j v (by simpa using hv))
    rw [Array.length_toList, hn, Array.toArray_toList] at h
    exact h
  cases hq : P.info? ty with
  | none => simp [hq] at hi
  | some i =>
    have hs : i.size = n := by simpa [hq] using hi
    have hagg : (isAgg ty).run P w = .ok true w := by
      unfold isAgg
      rw [Sem.run_bind, run_underlying hu w]
      cases d <;> simp_all
    simp [loadVar, Sem.run_bind, hagg, sizeOf, typeInfo, hq, hs, hl]

theorem wpList_load_cells {ops : Array Oper} {rest : List Oper} {o : Oper} {a : Act} {w : World} {Q : Exit → Act → World → Prop} (hgd : o.guard = none) (ty : TypeId) (x : Operand) (ho : o.op = .load ty x)
    (g off n : Nat) (hx : a.eval x = .pointer (some ⟨g, off, none⟩)) (d : TypeDesc) (hu : P.underlying ty = some d) (hd : (match d with | .struct _ | .array _ _ => true | _ => false) = true) (hi : (P.info? ty).map (·.size) = some n)
    (vs : Array Value) (hn : vs.size = n) (hc : ∀ j v, vs[j]? = some v → w.cell? ⟨g, off + j, none⟩ = some v) (h : wpList P ops Q rest (a.put o.dst (.agg vs)) w) : wpList P ops Q (o :: rest) a w := by
  refine wpList_plain hgd fun K hK => ?_
  unfold Oper.wp execOp
  simp only [ho, hx, Instr.loadAt, Instr.sureAddr, Sem.run_bind, Sem.run_pure, Result.andThen_ok, run_loadVar_cells w g off n ty d hu hd hi vs hn hc]
  exact hK _ _ h
end

/-- The cells of one window of a list. -/
theorem win_at {W : World} {a : Option Addr} {n cap : Nat} {ws : List Wn} (h : WinsAt W (.slice a n cap) ws) {k : Nat} {x : Wn} (hx : ws[k]? = some x) :
    ∃ g o, a = some ⟨g, o, none⟩ ∧ ∀ j v, (winC x)[j]? = some v → W.cell? ⟨g, o + k * 3 + j, none⟩ = some v := by
  obtain ⟨a', cap', e, _, _, h4⟩ := h
  injection e with e1 e2 e3
  subst e1
  obtain ⟨g, o, rfl, c0, c1, c2⟩ := h4 k x hx
  refine ⟨g, o, rfl, fun j v hv => ?_⟩
  match j, hv with
  | 0, hv => simp [winC] at hv; subst hv; exact c0
  | 1, hv => simp [winC] at hv; subst hv; exact c1
  | 2, hv => simp [winC] at hv; subst hv; exact c2
  | j + 3, hv => simp [winC] at hv
theorem wins_len {W : World} {a : Option Addr} {n cap : Nat} {ws : List Wn} (h : WinsAt W (.slice a n cap) ws) : n = ws.length ∧ n ≤ cap ∧ cap ≤ maxLen := by
  obtain ⟨a', cap', e, h2, h3, _⟩ := h
  injection e with e1 e2 e3
  subst e2; subst e3
  exact ⟨rfl, h2, h3⟩
theorem ret_boolR {a b : Bool} (h : a = b) : Ending.returned (.bool a) = .returned (.bool b) := by rw [h]
theorem ret_intR {k : IntKind} {a b : Int} (h : a = b) : Ending.returned (.int k a) = .returned (.int k b) := by rw [h]

end Go.Proofs.YtddnfbpgldchcaaDoor
