/-
  Controls, states and ticks as values.
-/
import Derived.Test.YtelgcggcmjdhjaaAgg
import Derived.Test.YtelgcggcmjdhjaaRow
import Derived.Deep.Cut
import Derived.Deep.DeepCutAuto
import Derived.Test.YtelgcggcmjdhjaaRows
import Derived.WalkSpells
import Derived.WalkLawsBesides
import Derived.Lib.Hide
namespace Go.Proofs.Ytelgcggcmjdhjaa
open Go.ChangeShapes Go.WideShapes Go.ChangeAt Go.RowKit Go.Deep Go.Joins

attribute [local go_sem] run_store_f

/-- Control, as cells. -/
def ctC (lo : Nat) (hi : Nat) (wi : Nat) (st : Int) (de : Int) (ca : Int) : Array Value := #[.float .f32 lo, .float .f32 hi, .float .f32 wi, .int .i8 st, .int .i8 de, .int .i8 ca]
def CtWf (lo : Nat) (hi : Nat) (wi : Nat) (st : Int) (de : Int) (ca : Int) : Prop := (Lit.float .f32 lo).wf = true ∧ (Lit.float .f32 hi).wf = true ∧ (Lit.float .f32 wi).wf = true ∧ (Lit.int .i8 st).wf = true ∧ (Lit.int .i8 de).wf = true ∧ (Lit.int .i8 ca).wf = true
theorem info_ctL : (Try.prog.info? 25).map (·.size) = some 6 := by kernel_rfl
theorem info_ct : (Try.prog.info? 27).map (·.size) = some 6 := by kernel_rfl
theorem ct_fits (lo : Nat) (hi : Nat) (wi : Nat) (st : Int) (de : Int) (ca : Int) : 0 + 6 ≤ (ctC lo hi wi st de ca).size := Nat.le_refl _
theorem ct_all (lo : Nat) (hi : Nat) (wi : Nat) (st : Int) (de : Int) (ca : Int) : (ctC lo hi wi st de ca).extract 0 (0 + 6) = ctC lo hi wi st de ca := rfl
theorem ct_one (lo : Nat) (hi : Nat) (wi : Nat) (st : Int) (de : Int) (ca : Int) : ∀ v ∈ ctC lo hi wi st de ca, v.oneCell' = true := by
  intro v hv
  simp only [ctC, List.mem_toArray, List.mem_cons, List.not_mem_nil, or_false] at hv
  rcases hv with rfl | rfl | rfl | rfl | rfl | rfl <;> rfl
theorem ct_cells {lo : Nat} {hi : Nat} {wi : Nat} {st : Int} {de : Int} {ca : Int} {W : World} {b : Nat} {T : TypeId} {fr : Nat × Nat} (h : W.heap[b]? = some (.cells (ctC lo hi wi st de ca) T fr)) :
    W.cell? ⟨b, 0, none⟩ = some (.float .f32 lo) ∧ W.cell? ⟨b, 1, none⟩ = some (.float .f32 hi) ∧ W.cell? ⟨b, 2, none⟩ = some (.float .f32 wi) ∧ W.cell? ⟨b, 3, none⟩ = some (.int .i8 st) ∧ W.cell? ⟨b, 4, none⟩ = some (.int .i8 de) ∧ W.cell? ⟨b, 5, none⟩ = some (.int .i8 ca) :=
  ⟨by rw [cell_of_row W _ _ _ _ _ h]; rfl, by rw [cell_of_row W _ _ _ _ _ h]; rfl, by rw [cell_of_row W _ _ _ _ _ h]; rfl, by rw [cell_of_row W _ _ _ _ _ h]; rfl, by rw [cell_of_row W _ _ _ _ _ h]; rfl, by rw [cell_of_row W _ _ _ _ _ h]; rfl⟩

set_option maxRecDepth 100000 in
theorem under_ctL : ∃ f0 f1 f2 f3 f4 f5 : Field, Try.prog.underlying 25 = some (.struct #[f0, f1, f2, f3, f4, f5]) ∧ f0.type = 22 ∧ f1.type = 22 ∧ f2.type = 22 ∧ f3.type = 23 ∧ f4.type = 23 ∧ f5.type = 23 ∧ oneCellFields Try.prog #[f0, f1, f2, f3, f4, f5] = true :=
  ⟨_, _, _, _, _, _, Try.underlying25, rfl, rfl, rfl, rfl, rfl, rfl, by kernel_rfl⟩

set_option maxRecDepth 100000 in
theorem open_ct {H : Type} {enc : TypeId × Value → H} {W : World} {b0 base : Nat} {spare : Nat → Bool} {held : Bool} {r : Reach} {v : Value} {d : DataW H} {p : List MemPlace}
    (hv : Value.okWide Try.prog W r b0 25 v) (h : DataW.Trod enc Try.prog W base spare held 25 v d p) : ∃ (lo : Nat) (hi : Nat) (wi : Nat) (st : Int) (de : Int) (ca : Int), CtWf lo hi wi st de ca ∧ v = .agg (ctC lo hi wi st de ca) := by
  obtain ⟨f0, f1, f2, f3, f4, f5, hu, e0, e1, e2, e3, e4, e5, hone⟩ := under_ctL
  obtain ⟨cs, n, rfl, hl, hf⟩ := open_aggN hu hone (by kernel_rfl) hv h
  match cs, hl with
  | [c0, c1, c2, c3, c4, c5], _ =>
    obtain ⟨c, y, hc, h0⟩ := hf 0 f0 rfl
    obtain rfl : c0 = c := by simpa using hc
    obtain ⟨c, y, hc, h1⟩ := hf 1 f1 rfl
    obtain rfl : c1 = c := by simpa using hc
    obtain ⟨c, y, hc, h2⟩ := hf 2 f2 rfl
    obtain rfl : c2 = c := by simpa using hc
    obtain ⟨c, y, hc, h3⟩ := hf 3 f3 rfl
    obtain rfl : c3 = c := by simpa using hc
    obtain ⟨c, y, hc, h4⟩ := hf 4 f4 rfl
    obtain rfl : c4 = c := by simpa using hc
    obtain ⟨c, y, hc, h5⟩ := hf 5 f5 rfl
    obtain rfl : c5 = c := by simpa using hc
    rw [e0] at h0; rw [e1] at h1; rw [e2] at h2; rw [e3] at h3; rw [e4] at h4; rw [e5] at h5
    obtain ⟨n0, q0, w0⟩ := trod_f Try.underlying22 h0
    obtain ⟨n1, q1, w1⟩ := trod_f Try.underlying22 h1
    obtain ⟨n2, q2, w2⟩ := trod_f Try.underlying22 h2
    obtain ⟨n3, q3, _, w3⟩ := DataW.trod_int Try.underlying23 h3
    obtain ⟨n4, q4, _, w4⟩ := DataW.trod_int Try.underlying23 h4
    obtain ⟨n5, q5, _, w5⟩ := DataW.trod_int Try.underlying23 h5
    simp only [List.cons.injEq, and_true] at q0 q1 q2 q3 q4 q5
    subst q0 q1 q2 q3 q4 q5
    exact ⟨n0, n1, n2, n3, n4, n5, ⟨w0, w1, w2, w3, w4, w5⟩, rfl⟩

set_option maxHeartbeats 400000 in
theorem toControl_any (lo : Nat) (hi : Nat) (wi : Nat) (st : Int) (de : Int) (ca : Int) (w : World) :
    Calls Try.prog 16 #[.agg (ctC lo hi wi st de ca)] w fun e w' => e = .returned (.agg (ctC lo hi wi st de ca)) ∧ Below w.heap.size w w' := by
  unfold ctC
  go_enter Try.func16, Try.ntmps16
  go_wp2
  refine bodyPost_ret (v := .agg #[.float .f32 lo, .float .f32 hi, .float .f32 wi, .int .i8 st, .int .i8 de, .int .i8 ca]) (by simp [results, Try.results16, go_sem]) rfl ⟨rfl, ?_⟩
  (repeat' first | exact Below.refl _ _ | assumption | refine Below.alloc ?_ (by first | omega | (simp; done) | (simp; omega)) _ | refine Below.setCell ?_ (by first | omega | (simp; done) | (simp; omega)) _ | refine Below.drew ?_)

/-- State, as cells. -/
def saC (ti : Int) (wt : Int) (sm : Int) : Array Value := #[.int .i16 ti, .int .i8 wt, .int .i8 sm]
def SaWf (ti : Int) (wt : Int) (sm : Int) : Prop := (Lit.int .i16 ti).wf = true ∧ (Lit.int .i8 wt).wf = true ∧ (Lit.int .i8 sm).wf = true
theorem info_saL : (Try.prog.info? 32).map (·.size) = some 3 := by kernel_rfl
theorem info_sa : (Try.prog.info? 34).map (·.size) = some 3 := by kernel_rfl
theorem sa_fits (ti : Int) (wt : Int) (sm : Int) : 0 + 3 ≤ (saC ti wt sm).size := Nat.le_refl _
theorem sa_all (ti : Int) (wt : Int) (sm : Int) : (saC ti wt sm).extract 0 (0 + 3) = saC ti wt sm := rfl
theorem sa_one (ti : Int) (wt : Int) (sm : Int) : ∀ v ∈ saC ti wt sm, v.oneCell' = true := by
  intro v hv
  simp only [saC, List.mem_toArray, List.mem_cons, List.not_mem_nil, or_false] at hv
  rcases hv with rfl | rfl | rfl <;> rfl
theorem sa_cells {ti : Int} {wt : Int} {sm : Int} {W : World} {b : Nat} {T : TypeId} {fr : Nat × Nat} (h : W.heap[b]? = some (.cells (saC ti wt sm) T fr)) :
    W.cell? ⟨b, 0, none⟩ = some (.int .i16 ti) ∧ W.cell? ⟨b, 1, none⟩ = some (.int .i8 wt) ∧ W.cell? ⟨b, 2, none⟩ = some (.int .i8 sm) :=
  ⟨by rw [cell_of_row W _ _ _ _ _ h]; rfl, by rw [cell_of_row W _ _ _ _ _ h]; rfl, by rw [cell_of_row W _ _ _ _ _ h]; rfl⟩

set_option maxRecDepth 100000 in
theorem under_saL : ∃ f0 f1 f2 : Field, Try.prog.underlying 32 = some (.struct #[f0, f1, f2]) ∧ f0.type = 30 ∧ f1.type = 23 ∧ f2.type = 23 ∧ oneCellFields Try.prog #[f0, f1, f2] = true :=
  ⟨_, _, _, Try.underlying32, rfl, rfl, rfl, by kernel_rfl⟩

set_option maxRecDepth 100000 in
theorem open_sa {H : Type} {enc : TypeId × Value → H} {W : World} {b0 base : Nat} {spare : Nat → Bool} {held : Bool} {r : Reach} {v : Value} {d : DataW H} {p : List MemPlace}
    (hv : Value.okWide Try.prog W r b0 32 v) (h : DataW.Trod enc Try.prog W base spare held 32 v d p) : ∃ (ti : Int) (wt : Int) (sm : Int), SaWf ti wt sm ∧ v = .agg (saC ti wt sm) := by
  obtain ⟨f0, f1, f2, hu, e0, e1, e2, hone⟩ := under_saL
  obtain ⟨cs, n, rfl, hl, hf⟩ := open_aggN hu hone (by kernel_rfl) hv h
  match cs, hl with
  | [c0, c1, c2], _ =>
    obtain ⟨c, y, hc, h0⟩ := hf 0 f0 rfl
    obtain rfl : c0 = c := by simpa using hc
    obtain ⟨c, y, hc, h1⟩ := hf 1 f1 rfl
    obtain rfl : c1 = c := by simpa using hc
    obtain ⟨c, y, hc, h2⟩ := hf 2 f2 rfl
    obtain rfl : c2 = c := by simpa using hc
    rw [e0] at h0; rw [e1] at h1; rw [e2] at h2
    obtain ⟨n0, q0, _, w0⟩ := DataW.trod_int Try.underlying30 h0
    obtain ⟨n1, q1, _, w1⟩ := DataW.trod_int Try.underlying23 h1
    obtain ⟨n2, q2, _, w2⟩ := DataW.trod_int Try.underlying23 h2
    simp only [List.cons.injEq, and_true] at q0 q1 q2
    subst q0 q1 q2
    exact ⟨n0, n1, n2, ⟨w0, w1, w2⟩, rfl⟩

set_option maxHeartbeats 400000 in
theorem toState_any (ti : Int) (wt : Int) (sm : Int) (w : World) :
    Calls Try.prog 19 #[.agg (saC ti wt sm)] w fun e w' => e = .returned (.agg (saC ti wt sm)) ∧ Below w.heap.size w w' := by
  unfold saC
  go_enter Try.func19, Try.ntmps19
  go_wp2
  refine bodyPost_ret (v := .agg #[.int .i16 ti, .int .i8 wt, .int .i8 sm]) (by simp [results, Try.results19, go_sem]) rfl ⟨rfl, ?_⟩
  (repeat' first | exact Below.refl _ _ | assumption | refine Below.alloc ?_ (by first | omega | (simp; done) | (simp; omega)) _ | refine Below.setCell ?_ (by first | omega | (simp; done) | (simp; omega)) _ | refine Below.drew ?_)

/-- Tick, as cells. -/
def tkC (lg : Nat) (gu : Nat) (hg : Int) : Array Value := #[.float .f32 lg, .float .f32 gu, .int .i8 hg]
def TkWf (lg : Nat) (gu : Nat) (hg : Int) : Prop := (Lit.float .f32 lg).wf = true ∧ (Lit.float .f32 gu).wf = true ∧ (Lit.int .i8 hg).wf = true
theorem info_tkL : (Try.prog.info? 38).map (·.size) = some 3 := by kernel_rfl
theorem info_tk : (Try.prog.info? 40).map (·.size) = some 3 := by kernel_rfl
theorem tk_fits (lg : Nat) (gu : Nat) (hg : Int) : 0 + 3 ≤ (tkC lg gu hg).size := Nat.le_refl _
theorem tk_all (lg : Nat) (gu : Nat) (hg : Int) : (tkC lg gu hg).extract 0 (0 + 3) = tkC lg gu hg := rfl
theorem tk_one (lg : Nat) (gu : Nat) (hg : Int) : ∀ v ∈ tkC lg gu hg, v.oneCell' = true := by
  intro v hv
  simp only [tkC, List.mem_toArray, List.mem_cons, List.not_mem_nil, or_false] at hv
  rcases hv with rfl | rfl | rfl <;> rfl
theorem tk_cells {lg : Nat} {gu : Nat} {hg : Int} {W : World} {b : Nat} {T : TypeId} {fr : Nat × Nat} (h : W.heap[b]? = some (.cells (tkC lg gu hg) T fr)) :
    W.cell? ⟨b, 0, none⟩ = some (.float .f32 lg) ∧ W.cell? ⟨b, 1, none⟩ = some (.float .f32 gu) ∧ W.cell? ⟨b, 2, none⟩ = some (.int .i8 hg) :=
  ⟨by rw [cell_of_row W _ _ _ _ _ h]; rfl, by rw [cell_of_row W _ _ _ _ _ h]; rfl, by rw [cell_of_row W _ _ _ _ _ h]; rfl⟩

set_option maxRecDepth 100000 in
theorem under_tkL : ∃ f0 f1 f2 : Field, Try.prog.underlying 38 = some (.struct #[f0, f1, f2]) ∧ f0.type = 22 ∧ f1.type = 22 ∧ f2.type = 23 ∧ oneCellFields Try.prog #[f0, f1, f2] = true :=
  ⟨_, _, _, Try.underlying38, rfl, rfl, rfl, by kernel_rfl⟩

set_option maxRecDepth 100000 in
theorem open_tk {H : Type} {enc : TypeId × Value → H} {W : World} {b0 base : Nat} {spare : Nat → Bool} {held : Bool} {r : Reach} {v : Value} {d : DataW H} {p : List MemPlace}
    (hv : Value.okWide Try.prog W r b0 38 v) (h : DataW.Trod enc Try.prog W base spare held 38 v d p) : ∃ (lg : Nat) (gu : Nat) (hg : Int), TkWf lg gu hg ∧ v = .agg (tkC lg gu hg) := by
  obtain ⟨f0, f1, f2, hu, e0, e1, e2, hone⟩ := under_tkL
  obtain ⟨cs, n, rfl, hl, hf⟩ := open_aggN hu hone (by kernel_rfl) hv h
  match cs, hl with
  | [c0, c1, c2], _ =>
    obtain ⟨c, y, hc, h0⟩ := hf 0 f0 rfl
    obtain rfl : c0 = c := by simpa using hc
    obtain ⟨c, y, hc, h1⟩ := hf 1 f1 rfl
    obtain rfl : c1 = c := by simpa using hc
    obtain ⟨c, y, hc, h2⟩ := hf 2 f2 rfl
    obtain rfl : c2 = c := by simpa using hc
    rw [e0] at h0; rw [e1] at h1; rw [e2] at h2
    obtain ⟨n0, q0, w0⟩ := trod_f Try.underlying22 h0
    obtain ⟨n1, q1, w1⟩ := trod_f Try.underlying22 h1
    obtain ⟨n2, q2, _, w2⟩ := DataW.trod_int Try.underlying23 h2
    simp only [List.cons.injEq, and_true] at q0 q1 q2
    subst q0 q1 q2
    exact ⟨n0, n1, n2, ⟨w0, w1, w2⟩, rfl⟩

set_option maxHeartbeats 400000 in
theorem toTick_any (lg : Nat) (gu : Nat) (hg : Int) (w : World) :
    Calls Try.prog 22 #[.agg (tkC lg gu hg)] w fun e w' => e = .returned (.agg (tkC lg gu hg)) ∧ Below w.heap.size w w' := by
  unfold tkC
  go_enter Try.func22, Try.ntmps22
  go_wp2
  refine bodyPost_ret (v := .agg #[.float .f32 lg, .float .f32 gu, .int .i8 hg]) (by simp [results, Try.results22, go_sem]) rfl ⟨rfl, ?_⟩
  (repeat' first | exact Below.refl _ _ | assumption | refine Below.alloc ?_ (by first | omega | (simp; done) | (simp; omega)) _ | refine Below.setCell ?_ (by first | omega | (simp; done) | (simp; omega)) _ | refine Below.drew ?_)

theorem ctwf_st {lo hi wi : Nat} {st de ca : Int} (h : CtWf lo hi wi st de ca) : -128 ≤ st ∧ st ≤ 127 := by
  have := h.2.2.2.1
  simp [Lit.wf, IntKind.min, IntKind.max, IntKind.signed, IntKind.bits] at this
  omega
theorem ctwf_de {lo hi wi : Nat} {st de ca : Int} (h : CtWf lo hi wi st de ca) : -128 ≤ de ∧ de ≤ 127 := by
  have := h.2.2.2.2.1
  simp [Lit.wf, IntKind.min, IntKind.max, IntKind.signed, IntKind.bits] at this
  omega
theorem ctwf_ca {lo hi wi : Nat} {st de ca : Int} (h : CtWf lo hi wi st de ca) : -128 ≤ ca ∧ ca ≤ 127 := by
  have := h.2.2.2.2.2
  simp [Lit.wf, IntKind.min, IntKind.max, IntKind.signed, IntKind.bits] at this
  omega
theorem sawf_b {ti wt sm : Int} (h : SaWf ti wt sm) : (-32768 ≤ ti ∧ ti ≤ 32767) ∧ (-128 ≤ wt ∧ wt ≤ 127) ∧ (-128 ≤ sm ∧ sm ≤ 127) := by
  obtain ⟨h0, h1, h2⟩ := h
  simp [Lit.wf, IntKind.min, IntKind.max, IntKind.signed, IntKind.bits] at h0 h1 h2
  omega
theorem tkwf_b {lg gu : Nat} {hg : Int} (h : TkWf lg gu hg) : -128 ≤ hg ∧ hg ≤ 127 := by
  have h2 := h.2.2
  simp [Lit.wf, IntKind.min, IntKind.max, IntKind.signed, IntKind.bits] at h2
  omega

end Go.Proofs.Ytelgcggcmjdhjaa
