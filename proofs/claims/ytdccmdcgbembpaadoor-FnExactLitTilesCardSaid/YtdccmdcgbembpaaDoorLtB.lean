/-
  LitTiles: the program.
-/
import Derived.Great.BuildSlice
import Derived.Test.YtdccmdcgbembpaaDoorLtA
import Derived.Test.YtdccmdcgbembpaaDoorRoomV
import Derived.Test.YtdccmdcgbembpaaDoorCode
import Derived.Test.YtdccmdcgbembpaaDoorSameN
namespace Go.Proofs.YtdccmdcgbembpaaDoor
open Go.ChangeShapes Go.WideShapes Go.ChangeAt Go.RowKit Go.Deep Go.Joins

attribute [local go_sem] run_store_floatE

theorem fin_iffT {b : Nat} : (FloatKind.f32.format.order b b = some .eq ∧ fin32 b = true) ∨ (FloatKind.f32.format.order b b = none ∧ fin32 b = false) := by
  unfold fin32
  show ((Ieee.single.read b).order (Ieee.single.read b) = some .eq ∧ _) ∨ _
  generalize hd : Ieee.single.read b = d
  have e : FloatKind.f32.format.order b b = d.order d := by show (Ieee.single.read b).order (Ieee.single.read b) = _; rw [hd]
  rw [e]
  cases d with
  | number s m e => left; simp [Ieee.Datum.order, Ieee.Datum.isNaN]
  | infinity s => left; simp [Ieee.Datum.order, Ieee.Datum.isNaN]
  | nan s f => right; exact ⟨rfl, rfl⟩

set_option maxRecDepth 100000 in
set_option maxHeartbeats 1000000 in
theorem iNumT (b : Nat) (w : World) : Calls Tryd.prog 57 #[.float .f32 b] w fun e w' => e = .returned (.bool (fin32 b)) ∧ w = w' := by
  rcases fin_iffT (b := b) with ⟨h, e⟩ | ⟨h, e⟩
  all_goals
    rw [e]
    clear e
    go_enter Tryd.func57, Tryd.ntmps57
    go_wp2
    go_ret
    exact ⟨rfl, rfl⟩

set_option maxRecDepth 100000 in
set_option maxHeartbeats 1000000 in
theorem sNumT (b : Nat) (w : World) : Calls Tryd.prog 56 #[.float .f32 b] w fun e w' => e = .returned (.bool (fin32 b)) ∧ w = w' := by
  rcases fin_iffT (b := b) with ⟨h, e⟩ | ⟨h, e⟩
  all_goals
    rw [e]
    clear e
    go_enter Tryd.func56, Tryd.ntmps56
    go_wp2
    go_ret
    exact ⟨rfl, rfl⟩

theorem wpList_buildTT {P : Program} {ops : Array Oper} {rest : List Oper} {o : Oper} {a : Act} {w : World} {Q : Exit → Act → World → Prop} (hg : o.guard = none) (t : TypeId) (parts : Array (Nat × Operand)) (ho : o.op = .build t parts)
    (d : Option Tmp) (hd : o.dst = d) (l : List (Nat × Value)) (hp : parts.toList.map (fun x => (x.1, a.eval x.2)) = l) (cells : Array Value) (hf : P.built t l = some cells)
    (h : wpList P ops Q rest (a.put d (.agg cells)) w) : wpList P ops Q (o :: rest) a w := by
  refine wpList_buildTo hg t parts ho d hd cells ?_ h
  rw [Array.toList_map, ← hf, ← hp]

theorem results_lit {fn : Func} {p u : Tmp} (h : fn.results = #[.cell p 42, .tmp u]) (tmps : Array Value) (w : World) (g : Nat) (xs : List Int) (hx : xs.length = 10) (hp : tmps.getD p undef = .pointer (some ⟨g, 0, none⟩)) (hg : w.heap[g]? = some (.cells (u16s xs) 42 (0, 0))) :
    (results fn tmps).run Tryd.prog w = .ok (.tuple #[.agg (u16s xs), tmps.getD u undef]) w := by
  have e := run_loadVar_row w g 42 42 (u16s xs) (0, 0) _ hg Tryd.underlying42 rfl (by rw [u16s_size, hx]; exact info_u16)
  have e0 : (results fn tmps).run Tryd.prog w =
      ((asAddr (tmps.getD p undef)).run Tryd.prog w).andThen fun a w₁ => ((loadVar 42 a).run Tryd.prog w₁).andThen fun x w₂ => .ok (.tuple #[x, tmps.getD u undef]) w₂ := by
    simp only [results, h]
    simp [Sem.run_bind, Result.andThen]
  rw [e0, hp]
  simp only [asAddr, Sem.run_pure, Result.andThen_ok, e]

set_option maxRecDepth 100000 in
set_option maxHeartbeats 2000000 in
theorem iLit_n1 (wd hg : Int) (sv : Value) (ws : List Wn) (le : Nat) (e0 e1 e2 e3 : Addr) (w : World) (hws : WinsAt w sv ws) (hE : ErrsAt w e0 e1 e2 e3) (hv : okRm wd hg ws = false) :
    Calls Tryd.prog 19 #[.agg (roomC wd hg sv), .float .f32 le] w fun e w' => e = .returned (.tuple #[.agg (u16s zU), .int .i64 1]) ∧ Below w.heap.size w w' := by
  have HVR : Hid (∀ V, WinsAt V sv ws → Calls Tryd.prog 49 #[.agg (roomC wd hg sv)] V fun e w' => e = .returned (.bool false) ∧ Below V.heap.size V w') := Lib.hid (fun V h => by have := ValidRoom_any wd hg sv ws V h; rw [hv] at this; exact this)
  have HNM : Hid (∀ V, Calls Tryd.prog 57 #[.float .f32 le] V fun e w' => e = .returned (.bool (fin32 le)) ∧ V = w') := Lib.hid (fun V => by have := iNumT le V; exact this)
  have HRF : Hid (∀ V, ErrsAt V e0 e1 e2 e3 → Calls Tryd.prog 48 #[.bool false, .bool (fin32 le), .bool true] V fun e w' => e = .returned (.iface 211 (.pointer (some e0))) ∧ V = w') := Lib.hid (fun V h => refusal_any h false (fin32 le) true)
  have HW := Lib.hid hws
  have HX := Lib.hid hE
  have HZB : Hid (Tryd.prog.built 42 [] = some (u16s zU)) := by unfold Hid; kernel_rfl
  have hn := fun w => run_neq_held_nil (P := Tryd.prog) (w := w) 88 211 (.pointer (some e0)) (by kernel_rfl)
  clear hws hE hv
  go_enter Tryd.func19, Tryd.ntmps19
  go_upto_region 1 with (fail)
  refine abs_world (fun V => V.heap[w.heap.size]? = some (.cells (roomC wd hg sv) 34 (0, 0)) ∧ V.heap[w.heap.size + 1]? = some (.cells (u16s zU) 42 (0, 0)) ∧ Below w.heap.size w V) (two_at w (.cells (roomC wd hg sv) 34) (.cells (u16s zU) 42)) ?_
  rintro V ⟨h0, h1, hb⟩
  have H0 := Lib.hid h0
  have H1 := Lib.hid h1
  have HV := Lib.hid (wins_below HW.out hb)
  replace HX := Lib.hid (errs_below HX.out hb)
  have n01 : w.heap.size < w.heap.size + 1 := by omega
  have hle1 : w.heap.size ≤ w.heap.size + 1 := by omega
  generalize w.heap.size + 1 = b1 at *
  clear h0 h1
  go_wp2_with (first | (refine wpList_load_part rfl 34 _ rfl w.heap.size 0 3 rfl 34 (roomC wd hg sv) (0, 0) _ H0.out Tryd.underlying34 rfl info_room (room_fits _ _ _) _ (room_all _ _ _) ?_) | (go_at_call 49; refine (HVR.out _ HV.out).mono ?_; rintro e W1 ⟨rfl, hb1⟩; replace H0 := Lib.hid (below_row hb1 H0.out); replace H1 := Lib.hid (below_row hb1 H1.out); replace HV := Lib.hid (wins_below HV.out hb1); replace HX := Lib.hid (errs_below HX.out hb1); replace hb := hb.trans (hb1.mono hb.size); clear hb1) | (go_at_call 57; refine (HNM.out _).mono ?_; rintro e w' ⟨rfl, rfl⟩) | (go_at_call 48; refine (HRF.out _ HX.out).mono ?_; rintro e W3 ⟨rfl, rfl⟩) | (go_at_call 50; refine (codeOf_any HX.out 1).mono ?_; rintro e W4 ⟨rfl, rfl⟩) | (refine wpList_buildTT rfl 42 _ rfl _ rfl [] rfl (u16s zU) HZB.out ?_) | (refine wpList_store_part rfl 42 _ _ rfl b1 0 (u16s zU) rfl rfl 42 (u16s zU) H1.out (by rw [u16s_size, zU_len]; exact info_u16) (Nat.le_refl _) (u16s_one _) ?_; rw [laid_allwE _ _ (by rfl)]))
  refine bodyPost_ret (results_lit rfl _ _ b1 zU zU_len rfl (setRow_heap _ _ _ _ _ _ H1.out)) rfl ?_
  exact ⟨rfl, below_setRow hb hle1 _⟩

set_option maxRecDepth 100000 in
set_option maxHeartbeats 2000000 in
theorem iLit_n2 (wd hg : Int) (sv : Value) (ws : List Wn) (le : Nat) (e0 e1 e2 e3 : Addr) (w : World) (hws : WinsAt w sv ws) (hE : ErrsAt w e0 e1 e2 e3) (hv : okRm wd hg ws = true) (hn2 : fin32 le = false) :
    Calls Tryd.prog 19 #[.agg (roomC wd hg sv), .float .f32 le] w fun e w' => e = .returned (.tuple #[.agg (u16s zU), .int .i64 2]) ∧ Below w.heap.size w w' := by
  have HVR : Hid (∀ V, WinsAt V sv ws → Calls Tryd.prog 49 #[.agg (roomC wd hg sv)] V fun e w' => e = .returned (.bool true) ∧ Below V.heap.size V w') := Lib.hid (fun V h => by have := ValidRoom_any wd hg sv ws V h; rw [hv] at this; exact this)
  have HNM : Hid (∀ V, Calls Tryd.prog 57 #[.float .f32 le] V fun e w' => e = .returned (.bool false) ∧ V = w') := Lib.hid (fun V => by have := iNumT le V; rw [hn2] at this; exact this)
  have HRF : Hid (∀ V, ErrsAt V e0 e1 e2 e3 → Calls Tryd.prog 48 #[.bool true, .bool false, .bool true] V fun e w' => e = .returned (.iface 211 (.pointer (some e1))) ∧ V = w') := Lib.hid (fun V h => refusal_any h true false true)
  have HW := Lib.hid hws
  have HX := Lib.hid hE
  have HZB : Hid (Tryd.prog.built 42 [] = some (u16s zU)) := by unfold Hid; kernel_rfl
  have hn := fun w => run_neq_held_nil (P := Tryd.prog) (w := w) 88 211 (.pointer (some e1)) (by kernel_rfl)
  clear hws hE hv hn2
  go_enter Tryd.func19, Tryd.ntmps19
  go_upto_region 1 with (fail)
  refine abs_world (fun V => V.heap[w.heap.size]? = some (.cells (roomC wd hg sv) 34 (0, 0)) ∧ V.heap[w.heap.size + 1]? = some (.cells (u16s zU) 42 (0, 0)) ∧ Below w.heap.size w V) (two_at w (.cells (roomC wd hg sv) 34) (.cells (u16s zU) 42)) ?_
  rintro V ⟨h0, h1, hb⟩
  have H0 := Lib.hid h0
  have H1 := Lib.hid h1
  have HV := Lib.hid (wins_below HW.out hb)
  replace HX := Lib.hid (errs_below HX.out hb)
  have n01 : w.heap.size < w.heap.size + 1 := by omega
  have hle1 : w.heap.size ≤ w.heap.size + 1 := by omega
  generalize w.heap.size + 1 = b1 at *
  clear h0 h1
  go_wp2_with (first | (refine wpList_load_part rfl 34 _ rfl w.heap.size 0 3 rfl 34 (roomC wd hg sv) (0, 0) _ H0.out Tryd.underlying34 rfl info_room (room_fits _ _ _) _ (room_all _ _ _) ?_) | (go_at_call 49; refine (HVR.out _ HV.out).mono ?_; rintro e W1 ⟨rfl, hb1⟩; replace H0 := Lib.hid (below_row hb1 H0.out); replace H1 := Lib.hid (below_row hb1 H1.out); replace HV := Lib.hid (wins_below HV.out hb1); replace HX := Lib.hid (errs_below HX.out hb1); replace hb := hb.trans (hb1.mono hb.size); clear hb1) | (go_at_call 57; refine (HNM.out _).mono ?_; rintro e w' ⟨rfl, rfl⟩) | (go_at_call 48; refine (HRF.out _ HX.out).mono ?_; rintro e W3 ⟨rfl, rfl⟩) | (go_at_call 50; refine (codeOf_any HX.out 2).mono ?_; rintro e W4 ⟨rfl, rfl⟩) | (refine wpList_buildTT rfl 42 _ rfl _ rfl [] rfl (u16s zU) HZB.out ?_) | (refine wpList_store_part rfl 42 _ _ rfl b1 0 (u16s zU) rfl rfl 42 (u16s zU) H1.out (by rw [u16s_size, zU_len]; exact info_u16) (Nat.le_refl _) (u16s_one _) ?_; rw [laid_allwE _ _ (by rfl)]))
  refine bodyPost_ret (results_lit rfl _ _ b1 zU zU_len rfl (setRow_heap _ _ _ _ _ _ H1.out)) rfl ?_
  exact ⟨rfl, below_setRow hb hle1 _⟩

set_option maxRecDepth 100000 in
set_option maxHeartbeats 2000000 in
theorem iLit_y (wd hg : Int) (W H : Nat) (hwd : wd = (W : Int)) (hhg : hg = (H : Int)) (hW : 0 < W) (hH : 0 < H) (sv : Value) (ws : List Wn) (hwf : ∀ x ∈ ws, WnWf x) (g : Int × Int → Nat) (hgd : g = fun t => litW (W : Int) (H : Int) t (fun _ => true) ws) (le : Nat) (hn2 : fin32 le = true) (P : Nat → Bool) (hP : P = fun k => enB le (g (tk W H hW hH k).1)) (e0 e1 e2 e3 : Addr) (w : World) (hws : WinsAt w sv ws) (hE : ErrsAt w e0 e1 e2 e3) (hv : okRm wd hg ws = true) :
    Calls Tryd.prog 19 #[.agg (roomC wd hg sv), .float .f32 le] w fun e w' => e = .returned (.tuple #[.agg (u16s (litN P W (W * H))), .int .i64 0]) ∧ Below w.heap.size w w' := by
  have HVR : Hid (∀ V, WinsAt V sv ws → Calls Tryd.prog 49 #[.agg (roomC wd hg sv)] V fun e w' => e = .returned (.bool true) ∧ Below V.heap.size V w') := Lib.hid (fun V h => by have := ValidRoom_any wd hg sv ws V h; rw [hv] at this; exact this)
  have HNM : Hid (∀ V, Calls Tryd.prog 57 #[.float .f32 le] V fun e w' => e = .returned (.bool true) ∧ V = w') := Lib.hid (fun V => by have := iNumT le V; rw [hn2] at this; exact this)
  have HRF : Hid (∀ V, ErrsAt V e0 e1 e2 e3 → Calls Tryd.prog 48 #[.bool true, .bool true, .bool true] V fun e w' => e = .returned .nilIface ∧ V = w') := Lib.hid (fun V h => refusal_any h true true true)
  have HLO : Hid (∀ V, WinsAt V sv ws → Calls Tryd.prog 58 #[.agg (roomC wd hg sv), .float .f32 le] V fun e w' => e = .returned (.agg (u16s (litN P W (W * H)))) ∧ Below V.heap.size V w') := by
    have ok := okRm_get hv
    rw [hwd, hhg] at ok
    rw [hwd, hhg]
    exact fun V h => litOf_any W H hW hH sv ws ok hwf g hgd le P hP V h
  have HW := Lib.hid hws
  have HX := Lib.hid hE
  have LM := Lib.hid (litN_len P W (W * H))
  have hn := fun w => run_neq_nil_nil (P := Tryd.prog) (w := w) 88 (by kernel_rfl)
  clear hws hE hv hwf hgd hwd hhg hP hn2
  generalize litN P W (W * H) = lt at *
  go_enter Tryd.func19, Tryd.ntmps19
  go_upto_region 1 with (fail)
  refine abs_world (fun V => V.heap[w.heap.size]? = some (.cells (roomC wd hg sv) 34 (0, 0)) ∧ V.heap[w.heap.size + 1]? = some (.cells (u16s zU) 42 (0, 0)) ∧ Below w.heap.size w V) (two_at w (.cells (roomC wd hg sv) 34) (.cells (u16s zU) 42)) ?_
  rintro V ⟨h0, h1, hb⟩
  have H0 := Lib.hid h0
  have H1 := Lib.hid h1
  have HV := Lib.hid (wins_below HW.out hb)
  replace HX := Lib.hid (errs_below HX.out hb)
  have n01 : w.heap.size < w.heap.size + 1 := by omega
  have hle1 : w.heap.size ≤ w.heap.size + 1 := by omega
  generalize w.heap.size + 1 = b1 at *
  clear h0 h1
  go_wp2_with (first | (refine wpList_load_part rfl 34 _ rfl w.heap.size 0 3 rfl 34 (roomC wd hg sv) (0, 0) _ H0.out Tryd.underlying34 rfl info_room (room_fits _ _ _) _ (room_all _ _ _) ?_) | (go_at_call 49; refine (HVR.out _ HV.out).mono ?_; rintro e W1 ⟨rfl, hb1⟩; replace H0 := Lib.hid (below_row hb1 H0.out); replace H1 := Lib.hid (below_row hb1 H1.out); replace HV := Lib.hid (wins_below HV.out hb1); replace HX := Lib.hid (errs_below HX.out hb1); replace hb := hb.trans (hb1.mono hb.size); clear hb1) | (go_at_call 57; refine (HNM.out _).mono ?_; rintro e w' ⟨rfl, rfl⟩) | (go_at_call 48; refine (HRF.out _ HX.out).mono ?_; rintro e W3 ⟨rfl, rfl⟩) | (go_at_call 58; refine (HLO.out _ HV.out).mono ?_; rintro e W1 ⟨rfl, hb1⟩; replace H0 := Lib.hid (below_row hb1 H0.out); replace H1 := Lib.hid (below_row hb1 H1.out); replace HV := Lib.hid (wins_below HV.out hb1); replace HX := Lib.hid (errs_below HX.out hb1); replace hb := hb.trans (hb1.mono hb.size); clear hb1) | (refine wpList_store_part rfl 42 _ _ rfl b1 0 (u16s lt) rfl rfl 42 (u16s zU) H1.out (by rw [u16s_size, LM.out]; exact info_u16) (by rw [u16s_size, u16s_size, LM.out, zU_len]; decide) (u16s_one _) ?_; rw [laid_allwE _ _ (by rw [u16s_size, u16s_size, LM.out, zU_len])]))
  refine bodyPost_ret (results_lit rfl _ _ b1 lt LM.out rfl (setRow_heap _ _ _ _ _ _ H1.out)) rfl ?_
  exact ⟨rfl, below_setRow hb hle1 _⟩

end Go.Proofs.YtdccmdcgbembpaaDoor
