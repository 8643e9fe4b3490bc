/-
  PersonA, Law, Box, SbA, Place, Place2, LightS, IsTile, RoomV.
-/
import Derived.Test.YtpcmcopfdghdgaaGreatDoorAgg
import Derived.Test.YtpcmcopfdghdgaaGreatDoorRow
import Derived.Deep.Cut
import Derived.Deep.DeepCutAuto
import Derived.Test.YtpcmcopfdghdgaaGreatDoorRows
import Derived.WalkSpells
import Derived.WalkLawsBesides
import Derived.Lib.Hide
import Derived.WalkKit
import Derived.ProofKit
import Derived.OpenShut
import Derived.Test.YtpcmcopfdghdgaaGreatDoorRoomE
import Derived.Test.YtpcmcopfdghdgaaGreatDoorSameN
import Derived.Test.YtpcmcopfdghdgaaGreatDoorRoomK
import Derived.Test.YtpcmcopfdghdgaaGreatDoorRoomF
import Derived.StillTailTactics
import Derived.IntWalk

namespace Go.Proofs.YtpcmcopfdghdgaaGreatDoor
open Go.ChangeShapes Go.WideShapes Go.ChangeAt Go.RowKit Go.Deep Go.Joins

attribute [local go_sem] run_store_f

/-- A person: the least light, the most light, the most glare. -/
def persC (l m g : Nat) : Array Value := #[.float .f32 l, .float .f32 m, .float .f32 g]
def PeWf (l m g : Nat) : Prop := (Lit.float .f32 l).wf = true ∧ (Lit.float .f32 m).wf = true ∧ (Lit.float .f32 g).wf = true
theorem info_persL : (Tryz.prog.info? 136).map (·.size) = some 3 := by kernel_rfl
theorem info_pers : (Tryz.prog.info? 134).map (·.size) = some 3 := by kernel_rfl
theorem pers_fits (l m g : Nat) : 0 + 3 ≤ (persC l m g).size := Nat.le_refl _
theorem pers_all (l m g : Nat) : (persC l m g).extract 0 (0 + 3) = persC l m g := rfl
theorem pers_cells {l m g : Nat} {W : World} {b : Nat} {T : TypeId} {fr : Nat × Nat} (h : W.heap[b]? = some (.cells (persC l m g) T fr)) :
    W.cell? ⟨b, 0, none⟩ = some (.float .f32 l) ∧ W.cell? ⟨b, 1, none⟩ = some (.float .f32 m) ∧ W.cell? ⟨b, 2, none⟩ = some (.float .f32 g) :=
  ⟨by rw [cell_of_row W _ _ _ _ _ h]; rfl, by rw [cell_of_row W _ _ _ _ _ h]; rfl, by rw [cell_of_row W _ _ _ _ _ h]; rfl⟩

set_option maxRecDepth 100000 in
theorem under_persL : ∃ f0 f1 f2 : Field, Tryz.prog.underlying 136 = some (.struct #[f0, f1, f2]) ∧ f0.type = 25 ∧ f1.type = 25 ∧ f2.type = 25 ∧ oneCellFields Tryz.prog #[f0, f1, f2] = true :=
  ⟨_, _, _, Tryz.underlying136, rfl, rfl, rfl, by kernel_rfl⟩

set_option maxRecDepth 100000 in
theorem open_person {H : Type} {enc : TypeId × Value → H} {W : World} {b0 base : Nat} {spare : Nat → Bool} {held : Bool} {r : Reach} {v : Value} {d : DataW H} {p : List MemPlace}
    (hv : Value.okWide Tryz.prog W r b0 136 v) (h : DataW.Trod enc Tryz.prog W base spare held 136 v d p) : ∃ l m g : Nat, PeWf l m g ∧ v = .agg (persC l m g) := by
  obtain ⟨f0, f1, f2, hu, e0, e1, e2, hone⟩ := under_persL
  obtain ⟨cs, n, rfl, hl, hf⟩ := open_aggN hu hone (by kernel_rfl) hv h
  match cs, hl with
  | [c0, c1, c2], _ =>
    obtain ⟨c, y, hc, h0⟩ := hf 0 f0 rfl
    obtain rfl : c0 = c := by simpa using hc
    obtain ⟨c, y, hc, h1⟩ := hf 1 f1 rfl
    obtain rfl : c1 = c := by simpa using hc
    obtain ⟨c, y, hc, h2⟩ := hf 2 f2 rfl
    obtain rfl : c2 = c := by simpa using hc
    rw [e0] at h0; rw [e1] at h1; rw [e2] at h2
    obtain ⟨n0, q0, w0⟩ := trod_f Tryz.underlying25 h0
    obtain ⟨n1, q1, w1⟩ := trod_f Tryz.underlying25 h1
    obtain ⟨n2, q2, w2⟩ := trod_f Tryz.underlying25 h2
    simp only [List.cons.injEq, and_true] at q0 q1 q2
    subst q0 q1 q2
    exact ⟨n0, n1, n2, ⟨w0, w1, w2⟩, rfl⟩

set_option maxHeartbeats 400000 in
theorem toPerson_any (l m g : Nat) (w : World) :
    Calls Tryz.prog 80 #[.agg (persC l m g)] w fun e w' => e = .returned (.agg (persC l m g)) ∧ Below w.heap.size w w' := by
  unfold persC
  go_enter Tryz.func80, Tryz.ntmps80
  go_wp2
  refine bodyPost_ret (v := .agg #[.float .f32 l, .float .f32 m, .float .f32 g]) (by simp [results, Tryz.results80, go_sem]) rfl ⟨rfl, ?_⟩
  (repeat' first | exact Below.refl _ _ | assumption | refine Below.alloc ?_ (by first | omega | (simp; done) | (simp; omega)) _ | refine Below.setCell ?_ (by first | omega | (simp; done) | (simp; omega)) _ | refine Below.drew ?_)

end Go.Proofs.YtpcmcopfdghdgaaGreatDoor

namespace Go.Proofs.YtpcmcopfdghdgaaGreatDoor
open Go.ChangeShapes Go.WideShapes Go.ChangeAt Go.RowKit

set_option maxRecDepth 100000 in
theorem law_own : ownKnob Tryz.prog.godebug = none := by kernel_rfl
set_option maxRecDepth 100000 in
theorem law_laidOut : laidOutB Tryz.prog = true := by kernel_rfl

theorem trodAll_below {H : Type} {enc : TypeId × Value → H} {P : Program} (hl : laidOutB P = true) {W W' : World} (hb : Below W.heap.size W W') :
    ∀ (ts : List TypeId) (vs : List Value) (ds : List (DataW H)) (ps : List MemPlace), (∀ t ∈ ts, P.readableRec t = true ∧ t < P.types.size) →
      DataW.TrodAll enc P W 0 (fun _ => true) true ts vs ds ps → (∀ x ∈ ps, x.block < W.heap.size) → DataW.TrodAll enc P W' 0 (fun b => decide (b < W.heap.size)) true ts vs ds ps
  | [], vs, ds, ps, _, h, _ => by
    obtain ⟨rfl, rfl, rfl⟩ := trodAll_nil h
    exact trodAll_mk0
  | t :: ts, vs, ds, ps, hr, h, hlt => by
    obtain ⟨v, vs', d, ds', p, q, rfl, rfl, rfl, h0, r0⟩ := trodAll_cons h
    have ht := hr t (by simp)
    exact trodAll_cons_mk (Below.trod hl ht.1 ht.2 h0 hb (fun x hx => hlt x (by simp [hx]))) (trodAll_below hl hb ts vs' ds' q (fun t ht => hr t (by simp [ht])) r0 (fun x hx => hlt x (by simp [hx])))

set_option maxRecDepth 100000 in
theorem law_lifted (F : FuncId) (fn : Func) (s : ChangeSpec) (conds : List PathCond) (os : Os) (started : os.Started) (H : Type) (enc : TypeId × Value → H)
    (hno : Tryz.checked.prog.inits.idxOf? F = none) (hfn : Tryz.checked.prog.funcs[F]? = some fn) (hv : s.vars = []) (hr : fn.resultTypes = #[4])
    (hts : ∀ t ∈ fn.params.toList, Tryz.prog.readableRec t = true ∧ t < Tryz.prog.types.size)
    (hspec : ∀ ds : List (DataW H), ds.length = fn.params.size → s.fn H (ds ++ []) = { results := [.lit (.bool true)], args := ds })
    (wit : ∃ (w : World) (tape : Tape) (i : Input), w.os = os ∧ (w.forCall tape i).Shaped Tryz.checked.prog ∧ i.vars = [] ∧ Input.okWide Tryz.checked.prog (w.forCall tape i) .any w.heap.size F i ∧
      s.pre6 enc Tryz.checked.prog fn conds false (w.forCall tape i).memory i.args ∧ ({} : Assume).holds Tryz.checked.prog (lone (Frame.enter Tryz.checked.prog F i.args .normal) [] (w.forCall tape i)))
    (walk : ∀ (W : World) (base : Nat) (args : Array Value) (ds : List (DataW H)) (p : List MemPlace),
      (∀ (j : Nat) t v, fn.params[j]? = some t → args[j]? = some v → Value.okWide Tryz.prog W .any base t v) →
      DataW.TrodAll enc Tryz.prog W 0 (fun _ => true) true fn.params.toList args.toList ds p →
      Calls Tryz.prog F args W fun e W' => e = .returned (.bool true) ∧ Below W.heap.size W W') :
    ReturnsInHanded {} Tryz.checked os F .any (s.pre6 enc Tryz.prog fn conds false) (s.post enc Tryz.prog fn false true false false) := by
  refine returnsInHanded_of_change (C := Tryz.checked) law_own started hno hfn wit ?_
  intro W base args ds gs before hval0 hW hcnd _
  have hW' := hW
  obtain ⟨p, q, hA0, hV, rfl, hfz, hnd⟩ := hW
  rw [hv] at hV
  obtain ⟨rfl, rfl⟩ := trodVars_none hV
  have hlen : ds.length = fn.params.size := by
    have key : ∀ (ts : List TypeId) (vs : List Value) (ds : List (DataW H)) (ps : List MemPlace), DataW.TrodAll enc Tryz.checked.prog W 0 (fun _ => true) true ts vs ds ps → ds.length = ts.length := by
      intro ts
      induction ts with
      | nil => intro vs ds ps h; obtain ⟨_, rfl, _⟩ := trodAll_nil h; rfl
      | cons t ts ih => intro vs ds ps h; obtain ⟨v, vs', d, ds', p, q, _, rfl, _, _, r0⟩ := trodAll_cons h; simp [ih _ _ _ r0]
    simpa using key _ _ _ _ hA0
  refine (walk W base args ds p hval0 hA0).mono fun e W' ⟨he, hg⟩ => ?_
  subst he
  have hlt : ∀ x ∈ p, x.block < W.heap.size := fun x hx => hW'.lt x (by simp [hx])
  refine ⟨_, rfl, _, _, _, [], p, [], hW', ?_, ?_, ?_, hg.frame _, fun h => by cases h⟩
  · rw [hspec ds hlen, hr]
    exact trodAll_mk1 (shut_bool Tryz.underlying4 _)
  · rw [hspec ds hlen]
    exact trodAll_below law_laidOut hg _ _ _ _ hts hA0 hlt
  · rw [hspec ds hlen, hv]
    rfl

end Go.Proofs.YtpcmcopfdghdgaaGreatDoor

namespace Go.Proofs.YtpcmcopfdghdgaaGreatDoor
open Go Go.RowKit

theorem alloc_at (w : World) (o : Obj) (i : Nat) : (w.alloc o).heap[i]? = if i = w.heap.size then some o else w.heap[i]? := by
  show (w.heap.push o)[i]? = _
  exact Array.getElem?_push
theorem box2 (w : World) (a b : Obj) : ((w.alloc a).alloc b).heap[w.heap.size]? = some a ∧ ((w.alloc a).alloc b).heap[w.heap.size + 1]? = some b ∧ Below w.heap.size w ((w.alloc a).alloc b) := by
  refine ⟨?_, ?_, ((Below.refl _ _).alloc (Nat.le_refl _) _).alloc (by simp) _⟩
  all_goals simp only [alloc_at, World.size_alloc]
  · rw [if_neg (by omega), if_true]
  · rw [if_true]
theorem box3 (w : World) (a b c : Obj) : (((w.alloc a).alloc b).alloc c).heap[w.heap.size]? = some a ∧ (((w.alloc a).alloc b).alloc c).heap[w.heap.size + 1]? = some b ∧ (((w.alloc a).alloc b).alloc c).heap[w.heap.size + 1 + 1]? = some c ∧ Below w.heap.size w (((w.alloc a).alloc b).alloc c) := by
  refine ⟨?_, ?_, ?_, (((Below.refl _ _).alloc (Nat.le_refl _) _).alloc (by simp) _).alloc (by simp; omega) _⟩
  all_goals simp only [alloc_at, World.size_alloc]
  · rw [if_neg (by omega), if_neg (by omega), if_true]
  · rw [if_neg (by omega), if_true]
  · rw [if_true]
theorem box4 (w : World) (a b c d : Obj) : ((((w.alloc a).alloc b).alloc c).alloc d).heap[w.heap.size]? = some a ∧ ((((w.alloc a).alloc b).alloc c).alloc d).heap[w.heap.size + 1]? = some b ∧ ((((w.alloc a).alloc b).alloc c).alloc d).heap[w.heap.size + 1 + 1]? = some c ∧ ((((w.alloc a).alloc b).alloc c).alloc d).heap[w.heap.size + 1 + 1 + 1]? = some d ∧ Below w.heap.size w ((((w.alloc a).alloc b).alloc c).alloc d) := by
  refine ⟨?_, ?_, ?_, ?_, ((((Below.refl _ _).alloc (Nat.le_refl _) _).alloc (by simp) _).alloc (by simp; omega) _).alloc (by simp; omega) _⟩
  all_goals simp only [alloc_at, World.size_alloc]
  · rw [if_neg (by omega), if_neg (by omega), if_neg (by omega), if_true]
  · rw [if_neg (by omega), if_neg (by omega), if_true]
  · rw [if_neg (by omega), if_true]
  · rw [if_true]
theorem cell_belowB {W W' : World} (hb : Below W.heap.size W W') {a : Addr} {v : Value} (h : W.cell? a = some v) : W'.cell? a = some v :=
  (hb.cell (World.block_lt_of_cell? W a h)).trans h

theorem wpList_load_partG {P : Program} {ops : Array Oper} {rest : List Oper} {o : Oper} {a : Act} {w : World} {Q : Exit → Act → World → Prop} (ty : TypeId) (x : Operand) (ho : o.op = .load ty x)
    (g off n : Nat) (hx : a.eval x = .pointer (some ⟨g, off, none⟩)) (hw : Region.wanted o (yielded ops a.tmps) = true) (t : TypeId) (cs : Array Value) (fr : Nat × Nat) (d : TypeDesc) (hg : w.heap[g]? = some (.cells cs t fr))
    (hu : P.underlying ty = some d) (hd : (match d with | .struct _ | .array _ _ => true | _ => false) = true) (hi : (P.info? ty).map (·.size) = some n) (hn : off + n ≤ cs.size)
    (vs : Array Value) (hvs : cs.extract off (off + n) = vs) (h : wpList P ops Q rest (a.put o.dst (.agg vs)) w) : wpList P ops Q (o :: rest) a w := by
  subst hvs
  refine wpList_step fun K hK => ?_
  simp only [hw, if_true]
  unfold Oper.wp execOp
  simp only [ho, hx, Instr.loadAt, Instr.sureAddr, Sem.run_bind, Sem.run_pure, Result.andThen_ok, run_loadVar_part w g off n t ty cs fr d hg hu hd hi hn]
  exact hK _ _ h

end Go.Proofs.YtpcmcopfdghdgaaGreatDoor

namespace Go.Proofs.YtpcmcopfdghdgaaGreatDoor
open Go.ChangeShapes Go.WideShapes Go.ChangeAt Go.RowKit Go.Deep Go.Joins

attribute [local go_sem] run_store_f

/-- A person: the least light, the most light, the most glare. -/
abbrev Pn := Nat × Nat × Nat

def pnC (x : Pn) : Array Value := persC x.1 x.2.1 x.2.2

def PnWf (x : Pn) : Prop := PeWf x.1 x.2.1 x.2.2

def PnsAt (W : World) (v : Value) (ws : List Pn) : Prop :=
  ∃ a cap, v = .slice a ws.length cap ∧ ws.length ≤ cap ∧ cap ≤ maxLen ∧ ∀ i x, ws[i]? = some x → ∃ g o, a = some ⟨g, o, none⟩ ∧ ∀ j v, (pnC x)[j]? = some v → W.cell? ⟨g, o + i * 3 + j, none⟩ = some v

theorem pns_below {W W' : World} {v : Value} {ws : List Pn} (h : PnsAt W v ws) (hb : Below W.heap.size W W') : PnsAt W' v ws := by
  obtain ⟨a, cap, h1, h2, h3, h4⟩ := h
  refine ⟨a, cap, h1, h2, h3, fun i x hx => ?_⟩
  obtain ⟨g, o, e, c0⟩ := h4 i x hx
  exact ⟨g, o, e, fun j v hv => cell_below hb (c0 j v hv)⟩

theorem pn_at {W : World} {a : Option Addr} {n cap : Nat} {ws : List Pn} (h : PnsAt W (.slice a n cap) ws) {k : Nat} {x : Pn} (hx : ws[k]? = some x) :
    ∃ g o, a = some ⟨g, o, none⟩ ∧ ∀ j v, (pnC x)[j]? = some v → W.cell? ⟨g, o + k * 3 + j, none⟩ = some v := by
  obtain ⟨a', cap', e, _, _, h4⟩ := h
  injection e with e1 e2 e3
  subst e1
  exact h4 k x hx

theorem trod_struct3P {P : Program} {H : Type} {enc : TypeId × Value → H} {w : World} {base : Nat} {spare : Nat → Bool} {held : Bool} {t : TypeId} {f0 f1 f2 : Field} {fuel : Nat} {cs : List Value} {x : DataW H × List MemPlace} (ht : P.underlying t = some (.struct #[f0, f1, f2])) (h : DataW.trod enc P w base spare held fuel t cs = some x) :
    ∃ y0 y1 y2 n, DataW.trod enc P w base spare held n f0.type ((cs.drop f0.offset).take (P.cellsOf f0.type)) = some y0 ∧
      DataW.trod enc P w base spare held n f1.type ((cs.drop f1.offset).take (P.cellsOf f1.type)) = some y1 ∧ DataW.trod enc P w base spare held n f2.type ((cs.drop f2.offset).take (P.cellsOf f2.type)) = some y2 := by
  obtain ⟨xs, n, _, rfl, hl, hlen, hf⟩ := DataW.trod_struct ht h
  match xs, hlen with
  | [y0, y1, y2], _ => exact ⟨y0, y1, y2, n, by simpa using hf 0 f0 rfl, by simpa using hf 1 f1 rfl, by simpa using hf 2 f2 rfl⟩

theorem cells_pnL : Tryz.prog.cellsOf 136 = 3 := by kernel_rfl

set_option maxRecDepth 100000 in
theorem open_persons {H : Type} {enc : TypeId × Value → H} {W : World} {b0 base : Nat} {spare : Nat → Bool} {held : Bool} {r : Reach} {v : Value} {d : DataW H} {p : List MemPlace}
    (hv : Value.okWide Tryz.prog W r b0 61 v) (h : DataW.Trod enc Tryz.prog W base spare held 61 v d p) : ∃ ws, PnsAt W v ws ∧ ∀ x ∈ ws, PnWf x := by
  obtain ⟨a0, len0, cap0, rfl⟩ := okWide_slice Tryz.underlying61 hv
  obtain ⟨fuel, hfu⟩ := h
  obtain ⟨f0, f1, f2, hu, e0, e1, e2, hone⟩ := under_persL
  rcases open_slice Tryz.underlying61 hfu with ⟨hcs, _⟩ | ⟨a, len, cap, m, n, D, Pl, hcs, _, hl, hm, hmm, _, hi⟩
  · simp [Value.cells] at hcs
    obtain ⟨rfl, rfl, rfl⟩ := hcs
    exact ⟨[], ⟨none, 0, rfl, Nat.le_refl _, by unfold maxLen; omega, fun i x hx => by simp at hx⟩, fun x hx => by cases hx⟩
  · simp [Value.cells] at hcs
    obtain ⟨rfl, rfl, rfl⟩ := hcs
    have hspot : 0 < len0 → a.spot = none := by
      intro h0
      obtain ⟨cs', hcs, _⟩ := hi 0 (by rw [hmm]; split <;> omega)
      rw [cells_pnL] at hcs
      obtain ⟨_, hcl, hat⟩ := World.cells?_some hcs
      have g0 := hat 0 (by omega)
      rw [List.getElem?_eq_getElem (by omega)] at g0
      have := World.cell?_spot g0
      simpa [Addr.add] using this
    have key : ∀ i, i < len0 → ∃ x : Pn, PnWf x ∧ ∃ g o, some a = some ⟨g, o, none⟩ ∧ ∀ j v, (pnC x)[j]? = some v → W.cell? ⟨g, o + i * 3 + j, none⟩ = some v := by
      intro i hlt
      obtain ⟨cs', hcs, ht⟩ := hi i (by rw [hmm]; split <;> omega)
      rw [cells_pnL] at hcs
      obtain ⟨_, hcl, hat⟩ := World.cells?_some hcs
      obtain ⟨y0, y1, y2, n', h0, h1, h2⟩ := trod_struct3P hu ht
      obtain ⟨o0, k0⟩ := hone_of hone 0 f0 rfl
      obtain ⟨o1, k1⟩ := hone_of hone 1 f1 rfl
      obtain ⟨o2, k2⟩ := hone_of hone 2 f2 rfl
      match cs', hcl with
      | [c0, c1, c2], _ =>
        rw [o0, k0, e0] at h0
        rw [o1, k1, e1] at h1
        rw [o2, k2, e2] at h2
        obtain ⟨z0, q0, w0⟩ := trod_f Tryz.underlying25 h0
        obtain ⟨z1, q1, w1⟩ := trod_f Tryz.underlying25 h1
        obtain ⟨z2, q2, w2⟩ := trod_f Tryz.underlying25 h2
        simp at q0 q1 q2
        subst q0 q1 q2
        have hsp := hspot (by omega)
        obtain ⟨g, o, spot⟩ := a
        obtain rfl : spot = none := hsp
        refine ⟨(z0, z1, z2), ⟨w0, w1, w2⟩, g, o, rfl, fun j v hv => ?_⟩
        have hj : j < 3 := (Array.getElem?_eq_some_iff.1 hv).1
        have hg := hat j hj
        simp only [addr_add] at hg
        rw [hg]
        match j, hj, hv with
        | 0, _, hv => simpa [pnC, persC] using hv
        | 1, _, hv => simpa [pnC, persC] using hv
        | 2, _, hv => simpa [pnC, persC] using hv
    obtain ⟨ws, hlen, hall⟩ := list_of len0 key
    subst hlen
    refine ⟨ws, ⟨some a, cap0, rfl, hl, hm, fun i x hx => (hall i x hx).2⟩, fun x hx => ?_⟩
    obtain ⟨i, hi⟩ := List.mem_iff_getElem?.1 hx
    exact (hall i x hi).1

theorem pn_fits (x : Pn) : 0 + 3 ≤ (pnC x).size := Nat.le_refl _

theorem pn_all (x : Pn) : (pnC x).extract 0 (0 + 3) = pnC x := rfl

theorem pn_one (x : Pn) : ∀ v ∈ pnC x, v.oneCell' = true := by
  intro v hv
  simp only [pnC, persC, List.mem_toArray, List.mem_cons, List.not_mem_nil, or_false] at hv
  rcases hv with rfl | rfl | rfl <;> rfl

theorem info_pnz : (Tryz.prog.info? 134).map (fun i => (i.zero, i.size, i.bytes)) = some (some (.agg #[.float .f32 0, .float .f32 0, .float .f32 0]), 3, 12) := by kernel_rfl

theorem make_pns (n : Nat) (hn : n ≤ 1048576) (w : World) : (Instr.makeSlice 74 (.int .i64 (n : Int)) (.int .i64 (n : Int))).run Tryz.prog w = .ok (.slice (some ⟨w.heap.size, 0, none⟩) n n) (w.alloc (.cells (madeCells #[.float .f32 0, .float .f32 0, .float .f32 0] (n * 3)) 134)) := by
  obtain ⟨i0, hi, hz0, hz1, hz2⟩ := info_parts info_pnz
  have h := run_make (P := Tryz.prog) w 74 134 i0 _ Tryz.underlying74 hi hz0 .i64 .i64 (n : Int) (n : Int) (by omega) (Int.le_refl _) (by rw [hz2]; omega) (by omega)
  rw [hz1] at h
  simpa [Value.cells] using h

theorem row_pn {W : World} {g : Nat} {cur : Array Value} {T : TypeId} {k : Nat} {x : Pn} (hg : W.heap[g]? = some (.cells cur T (0, 0))) (he : cur.extract (k * 3) (k * 3 + 3) = pnC x) : ∀ j v, (pnC x)[j]? = some v → W.cell? ⟨g, 0 + k * 3 + j, none⟩ = some v := by
  intro j v hv
  rw [Nat.zero_add, cell_of_row W _ _ _ _ _ hg]
  rw [← he, Array.getElem?_extract] at hv
  split at hv
  · exact hv
  · cases hv

/-- Persons in a block of the call's own. -/
def OwnPn (w : World) (b : Nat) (v : Value) (ws : List Pn) : Prop :=
  ∃ g cur, v = .slice (some ⟨g, 0, none⟩) ws.length ws.length ∧ b ≤ g ∧ w.heap[g]? = some (.cells cur 134 (0, 0)) ∧ cur.size = ws.length * 3 ∧ ws.length ≤ 1048576 ∧ ∀ k x, ws[k]? = some x → cur.extract (k * 3) (k * 3 + 3) = pnC x

theorem ownPn_at {w : World} {b : Nat} {v : Value} {ws : List Pn} (h : OwnPn w b v ws) : PnsAt w v ws := by
  obtain ⟨g, cur, rfl, h2, h3, h4, h5, h6⟩ := h
  exact ⟨_, _, rfl, Nat.le_refl _, by unfold maxLen; omega, fun k x hx => ⟨g, 0, rfl, row_pn h3 (h6 k x hx)⟩⟩

theorem ownPn_below {w w' : World} {b B : Nat} {v : Value} {ws : List Pn} (h : OwnPn w b v ws) (hb : Below w.heap.size w w') (hB : B ≤ b) : OwnPn w' B v ws := by
  obtain ⟨g, cur, h1, h2, h3, h4, h5, h6⟩ := h
  exact ⟨g, cur, h1, by omega, below_row hb h3, h4, h5, h6⟩

set_option maxRecDepth 100000 in
set_option maxHeartbeats 1000000 in
theorem toPersonS_any (sv : Value) (ws : List Pn) (hlen : ws.length ≤ 1048576) (w : World) (hws : PnsAt w sv ws) :
    Calls Tryz.prog 32 #[sv] w fun e w' => (∃ v, e = .returned v ∧ OwnPn w' w.heap.size v ws) ∧ Below w.heap.size w w' := by
  have HW := Lib.hid hws
  obtain ⟨a, cap, rfl, hl1, hl2, _⟩ := hws
  unfold maxLen at hl2
  generalize hn : ws.length = n at *
  have HN := Lib.hid hn
  have hmk := fun w => make_pns n hlen w
  clear hn
  go_enter Tryz.func32, Tryz.ntmps32
  go_wp2
  go_loopw [4] (fun i wr => ∃ k : Nat, k ≤ n ∧ i = .int .i64 k ∧ Below w.heap.size w wr ∧ ∃ cur, wr.heap[w.heap.size]? = some (.cells cur 134 (0, 0)) ∧ cur.size = n * 3 ∧ ∀ j x, j < k → ws[j]? = some x → cur.extract (j * 3) (j * 3 + 3) = pnC x) (fun i _ => n - (intOf i).toNat)
  case atStart => exact ⟨0, Nat.zero_le _, rfl, (Below.refl _ _).alloc (Nat.le_refl _) _, _, heap_alloc_new _ _, size_madeCells _ _, fun j x hj => by omega⟩
  case round =>
    clear hmk
    obtain ⟨k, hk, rfl, hb, cur, hg, hs, hp⟩ := hrel
    have HP := Lib.hid hp
    have HG := Lib.hid hg
    have hgl := row_lt hg
    clear hp hg
    by_cases hlt : k < n
    · have hx : ws[k]? = some (ws[k]'(by rw [HN.out]; exact hlt)) := List.getElem?_eq_getElem _
      obtain ⟨g, o, rfl, hc⟩ := pn_at (pns_below HW.out hb) hx
      have HC := Lib.hid hc
      generalize (ws[k]'(by rw [HN.out]; exact hlt)) = x at *
      have HX := Lib.hid hx
      have hks : k * 3 + 3 ≤ cur.size := by omega
      have z1 : (k : Int) < (n : Int) := by omega
      have z2 : (0 : Int) ≤ (k : Int) := by omega
      clear hc hx
      go_wp2_with (first | (refine wpList_load_cells rfl 136 _ rfl g (o + k * 3) 3 rfl _ Tryz.underlying136 rfl info_persL (pnC x) rfl HC.out ?_) | (go_at_call 80; refine (toPerson_any x.1 x.2.1 x.2.2 _).mono ?_; rintro e W1 ⟨rfl, hb1⟩) | (refine wpList_store_part rfl 134 _ _ rfl w.heap.size (k * 3) (pnC x) rfl rfl 134 cur (below_row hb1 HG.out) (by kernel_rfl) hks (pn_one _) ?_))
      go_roundw
      case rel =>
        refine ⟨k + 1, by omega, by go_num, below_setRow (hb.trans (hb1.mono hb.size)) (Nat.le_refl _) _, _, setRow_heap _ _ _ _ _ _ (below_row hb1 HG.out), by rw [laid_size _ _ _ hks]; exact hs, fun j y hj hy => ?_⟩
        by_cases e : j = k
        · subst e
          rw [HX.out] at hy
          obtain rfl := Option.some.inj hy
          exact laid_here cur (pnC x) (j * 3) hks
        · rw [laid_there cur (pnC x) (k * 3) (j * 3) 3 hks (by omega)]
          exact HP.out j y (by omega) hy
      case measure => simp [intOf]; omega
    · obtain rfl : k = n := by omega
      have HR : Hid (OwnPn wr w.heap.size (.slice (some ⟨w.heap.size, 0, none⟩) k k) ws) := by
        refine ⟨_, cur, by rw [HN.out], Nat.le_refl _, HG.out, by rw [HN.out]; exact hs, by rw [HN.out]; exact hlen, fun j x hx => ?_⟩
        have := (List.getElem?_eq_some_iff.1 hx).1
        exact HP.out j x (by have := HN.out; omega) hx
      go_wp2
      go_ret
      exact ⟨⟨_, rfl, HR.out⟩, hb⟩

set_option maxRecDepth 100000 in
set_option maxHeartbeats 1000000 in
theorem szPersonS_any (a : Option Addr) (n cap : Nat) (left : Int) (hn : n ≤ 9223372036854775807) (h0 : 0 ≤ left) (h1 : left ≤ 1048576) (w : World) :
    Calls Tryz.prog 28 #[.slice a n cap, .int .i64 left] w fun e w' => e = .returned (.int .i64 (leftI n left)) ∧ w = w' := by
  unfold leftI
  by_cases h : left - (n : Int) < 0
  · rw [if_pos h]
    go_enter Tryz.func28, Tryz.ntmps28
    go_wp2
    go_ret
    exact ⟨rfl, rfl⟩
  · rw [if_neg h]
    go_enter Tryz.func28, Tryz.ntmps28
    go_wp2
    go_ret
    exact ⟨rfl, rfl⟩


set_option maxRecDepth 100000 in
set_option maxHeartbeats 4000000 in
theorem eqPe_nan (l m g : Nat) (w : World) : Calls Tryz.prog 86 #[.agg (persC l m g), .agg (persC l m g)] w fun e w' => e = .returned (.bool true) ∧ Below w.heap.size w w' := by
  have HA := Lib.hid (box2 w (.cells (persC l m g) 134) (.cells (persC l m g) 134))
  cases h0 : fin32 l with
  | true =>
    cases h1 : fin32 m with
    | true =>
      cases h2 : fin32 g with
      | true =>
        have hw0 := run_wide _ h0
        have Hv0 := Lib.hid h0
        clear h0
        have hw1 := run_wide _ h1
        have Hv1 := Lib.hid h1
        clear h1
        have hw2 := run_wide _ h2
        have Hv2 := Lib.hid h2
        clear h2
        go_enter Tryz.func86, Tryz.ntmps86
        go_upto_region 1 with (fail)
        refine abs_world (fun W => W.heap[w.heap.size]? = some (.cells (persC l m g) 134 (0, 0)) ∧ W.heap[w.heap.size + 1]? = some (.cells (persC l m g) 134 (0, 0)) ∧ Below w.heap.size w W) HA.out ?_
        clear HA
        rintro W ⟨q0, q1, hb⟩
        obtain ⟨k0, k1, k2⟩ := pers_cells q0
        obtain ⟨p0, p1, p2⟩ := pers_cells q1
        clear q0 q1
        generalize w.heap.size + 1 = b1 at *
        go_wp2_with (first | (go_at_call 128; with_reducible refine (same_wide _ Hv0.out _).mono ?_; rintro e w1 ⟨rfl, rfl⟩) | (go_at_call 128; with_reducible refine (same_wide _ Hv1.out _).mono ?_; rintro e w1 ⟨rfl, rfl⟩) | (go_at_call 128; with_reducible refine (same_wide _ Hv2.out _).mono ?_; rintro e w1 ⟨rfl, rfl⟩))
        go_ret
        exact ⟨rfl, by (repeat' first | exact Below.refl _ _ | assumption | refine Below.alloc ?_ (by first | omega | (simp; done) | (simp; omega)) _ | refine Below.setCell ?_ (by first | omega | (simp; done) | (simp; omega)) _ | refine Below.drew ?_)⟩
      | false =>
        have hw0 := run_wide _ h0
        have Hv0 := Lib.hid h0
        clear h0
        have hw1 := run_wide _ h1
        have Hv1 := Lib.hid h1
        clear h1
        have hw2 := run_wide_nan _ h2
        clear h2
        go_enter Tryz.func86, Tryz.ntmps86
        go_upto_region 1 with (fail)
        refine abs_world (fun W => W.heap[w.heap.size]? = some (.cells (persC l m g) 134 (0, 0)) ∧ W.heap[w.heap.size + 1]? = some (.cells (persC l m g) 134 (0, 0)) ∧ Below w.heap.size w W) HA.out ?_
        clear HA
        rintro W ⟨q0, q1, hb⟩
        obtain ⟨k0, k1, k2⟩ := pers_cells q0
        obtain ⟨p0, p1, p2⟩ := pers_cells q1
        clear q0 q1
        generalize w.heap.size + 1 = b1 at *
        go_wp2_with (first | (go_at_call 128; with_reducible refine (same_wide _ Hv0.out _).mono ?_; rintro e w1 ⟨rfl, rfl⟩) | (go_at_call 128; with_reducible refine (same_wide _ Hv1.out _).mono ?_; rintro e w1 ⟨rfl, rfl⟩) | (go_at_call 128; with_reducible refine (same_nan _ _ (nanW_nan _ _) (nanW_nan _ _) _).mono ?_; rintro e w1 ⟨rfl, rfl⟩))
        go_ret
        exact ⟨rfl, by (repeat' first | exact Below.refl _ _ | assumption | refine Below.alloc ?_ (by first | omega | (simp; done) | (simp; omega)) _ | refine Below.setCell ?_ (by first | omega | (simp; done) | (simp; omega)) _ | refine Below.drew ?_)⟩
    | false =>
      cases h2 : fin32 g with
      | true =>
        have hw0 := run_wide _ h0
        have Hv0 := Lib.hid h0
        clear h0
        have hw1 := run_wide_nan _ h1
        clear h1
        have hw2 := run_wide _ h2
        have Hv2 := Lib.hid h2
        clear h2
        go_enter Tryz.func86, Tryz.ntmps86
        go_upto_region 1 with (fail)
        refine abs_world (fun W => W.heap[w.heap.size]? = some (.cells (persC l m g) 134 (0, 0)) ∧ W.heap[w.heap.size + 1]? = some (.cells (persC l m g) 134 (0, 0)) ∧ Below w.heap.size w W) HA.out ?_
        clear HA
        rintro W ⟨q0, q1, hb⟩
        obtain ⟨k0, k1, k2⟩ := pers_cells q0
        obtain ⟨p0, p1, p2⟩ := pers_cells q1
        clear q0 q1
        generalize w.heap.size + 1 = b1 at *
        go_wp2_with (first | (go_at_call 128; with_reducible refine (same_wide _ Hv0.out _).mono ?_; rintro e w1 ⟨rfl, rfl⟩) | (go_at_call 128; with_reducible refine (same_wide _ Hv2.out _).mono ?_; rintro e w1 ⟨rfl, rfl⟩) | (go_at_call 128; with_reducible refine (same_nan _ _ (nanW_nan _ _) (nanW_nan _ _) _).mono ?_; rintro e w1 ⟨rfl, rfl⟩))
        go_ret
        exact ⟨rfl, by (repeat' first | exact Below.refl _ _ | assumption | refine Below.alloc ?_ (by first | omega | (simp; done) | (simp; omega)) _ | refine Below.setCell ?_ (by first | omega | (simp; done) | (simp; omega)) _ | refine Below.drew ?_)⟩
      | false =>
        have hw0 := run_wide _ h0
        have Hv0 := Lib.hid h0
        clear h0
        have hw1 := run_wide_nan _ h1
        clear h1
        have hw2 := run_wide_nan _ h2
        clear h2
        go_enter Tryz.func86, Tryz.ntmps86
        go_upto_region 1 with (fail)
        refine abs_world (fun W => W.heap[w.heap.size]? = some (.cells (persC l m g) 134 (0, 0)) ∧ W.heap[w.heap.size + 1]? = some (.cells (persC l m g) 134 (0, 0)) ∧ Below w.heap.size w W) HA.out ?_
        clear HA
        rintro W ⟨q0, q1, hb⟩
        obtain ⟨k0, k1, k2⟩ := pers_cells q0
        obtain ⟨p0, p1, p2⟩ := pers_cells q1
        clear q0 q1
        generalize w.heap.size + 1 = b1 at *
        go_wp2_with (first | (go_at_call 128; with_reducible refine (same_wide _ Hv0.out _).mono ?_; rintro e w1 ⟨rfl, rfl⟩) | (go_at_call 128; with_reducible refine (same_nan _ _ (nanW_nan _ _) (nanW_nan _ _) _).mono ?_; rintro e w1 ⟨rfl, rfl⟩))
        go_ret
        exact ⟨rfl, by (repeat' first | exact Below.refl _ _ | assumption | refine Below.alloc ?_ (by first | omega | (simp; done) | (simp; omega)) _ | refine Below.setCell ?_ (by first | omega | (simp; done) | (simp; omega)) _ | refine Below.drew ?_)⟩
  | false =>
    cases h1 : fin32 m with
    | true =>
      cases h2 : fin32 g with
      | true =>
        have hw0 := run_wide_nan _ h0
        clear h0
        have hw1 := run_wide _ h1
        have Hv1 := Lib.hid h1
        clear h1
        have hw2 := run_wide _ h2
        have Hv2 := Lib.hid h2
        clear h2
        go_enter Tryz.func86, Tryz.ntmps86
        go_upto_region 1 with (fail)
        refine abs_world (fun W => W.heap[w.heap.size]? = some (.cells (persC l m g) 134 (0, 0)) ∧ W.heap[w.heap.size + 1]? = some (.cells (persC l m g) 134 (0, 0)) ∧ Below w.heap.size w W) HA.out ?_
        clear HA
        rintro W ⟨q0, q1, hb⟩
        obtain ⟨k0, k1, k2⟩ := pers_cells q0
        obtain ⟨p0, p1, p2⟩ := pers_cells q1
        clear q0 q1
        generalize w.heap.size + 1 = b1 at *
        go_wp2_with (first | (go_at_call 128; with_reducible refine (same_wide _ Hv1.out _).mono ?_; rintro e w1 ⟨rfl, rfl⟩) | (go_at_call 128; with_reducible refine (same_wide _ Hv2.out _).mono ?_; rintro e w1 ⟨rfl, rfl⟩) | (go_at_call 128; with_reducible refine (same_nan _ _ (nanW_nan _ _) (nanW_nan _ _) _).mono ?_; rintro e w1 ⟨rfl, rfl⟩))
        go_ret
        exact ⟨rfl, by (repeat' first | exact Below.refl _ _ | assumption | refine Below.alloc ?_ (by first | omega | (simp; done) | (simp; omega)) _ | refine Below.setCell ?_ (by first | omega | (simp; done) | (simp; omega)) _ | refine Below.drew ?_)⟩
      | false =>
        have hw0 := run_wide_nan _ h0
        clear h0
        have hw1 := run_wide _ h1
        have Hv1 := Lib.hid h1
        clear h1
        have hw2 := run_wide_nan _ h2
        clear h2
        go_enter Tryz.func86, Tryz.ntmps86
        go_upto_region 1 with (fail)
        refine abs_world (fun W => W.heap[w.heap.size]? = some (.cells (persC l m g) 134 (0, 0)) ∧ W.heap[w.heap.size + 1]? = some (.cells (persC l m g) 134 (0, 0)) ∧ Below w.heap.size w W) HA.out ?_
        clear HA
        rintro W ⟨q0, q1, hb⟩
        obtain ⟨k0, k1, k2⟩ := pers_cells q0
        obtain ⟨p0, p1, p2⟩ := pers_cells q1
        clear q0 q1
        generalize w.heap.size + 1 = b1 at *
        go_wp2_with (first | (go_at_call 128; with_reducible refine (same_wide _ Hv1.out _).mono ?_; rintro e w1 ⟨rfl, rfl⟩) | (go_at_call 128; with_reducible refine (same_nan _ _ (nanW_nan _ _) (nanW_nan _ _) _).mono ?_; rintro e w1 ⟨rfl, rfl⟩))
        go_ret
        exact ⟨rfl, by (repeat' first | exact Below.refl _ _ | assumption | refine Below.alloc ?_ (by first | omega | (simp; done) | (simp; omega)) _ | refine Below.setCell ?_ (by first | omega | (simp; done) | (simp; omega)) _ | refine Below.drew ?_)⟩
    | false =>
      cases h2 : fin32 g with
      | true =>
        have hw0 := run_wide_nan _ h0
        clear h0
        have hw1 := run_wide_nan _ h1
        clear h1
        have hw2 := run_wide _ h2
        have Hv2 := Lib.hid h2
        clear h2
        go_enter Tryz.func86, Tryz.ntmps86
        go_upto_region 1 with (fail)
        refine abs_world (fun W => W.heap[w.heap.size]? = some (.cells (persC l m g) 134 (0, 0)) ∧ W.heap[w.heap.size + 1]? = some (.cells (persC l m g) 134 (0, 0)) ∧ Below w.heap.size w W) HA.out ?_
        clear HA
        rintro W ⟨q0, q1, hb⟩
        obtain ⟨k0, k1, k2⟩ := pers_cells q0
        obtain ⟨p0, p1, p2⟩ := pers_cells q1
        clear q0 q1
        generalize w.heap.size + 1 = b1 at *
        go_wp2_with (first | (go_at_call 128; with_reducible refine (same_wide _ Hv2.out _).mono ?_; rintro e w1 ⟨rfl, rfl⟩) | (go_at_call 128; with_reducible refine (same_nan _ _ (nanW_nan _ _) (nanW_nan _ _) _).mono ?_; rintro e w1 ⟨rfl, rfl⟩))
        go_ret
        exact ⟨rfl, by (repeat' first | exact Below.refl _ _ | assumption | refine Below.alloc ?_ (by first | omega | (simp; done) | (simp; omega)) _ | refine Below.setCell ?_ (by first | omega | (simp; done) | (simp; omega)) _ | refine Below.drew ?_)⟩
      | false =>
        have hw0 := run_wide_nan _ h0
        clear h0
        have hw1 := run_wide_nan _ h1
        clear h1
        have hw2 := run_wide_nan _ h2
        clear h2
        go_enter Tryz.func86, Tryz.ntmps86
        go_upto_region 1 with (fail)
        refine abs_world (fun W => W.heap[w.heap.size]? = some (.cells (persC l m g) 134 (0, 0)) ∧ W.heap[w.heap.size + 1]? = some (.cells (persC l m g) 134 (0, 0)) ∧ Below w.heap.size w W) HA.out ?_
        clear HA
        rintro W ⟨q0, q1, hb⟩
        obtain ⟨k0, k1, k2⟩ := pers_cells q0
        obtain ⟨p0, p1, p2⟩ := pers_cells q1
        clear q0 q1
        generalize w.heap.size + 1 = b1 at *
        go_wp2_with (go_at_call 128; with_reducible refine (same_nan _ _ (nanW_nan _ _) (nanW_nan _ _) _).mono ?_; rintro e w1 ⟨rfl, rfl⟩)
        go_ret
        exact ⟨rfl, by (repeat' first | exact Below.refl _ _ | assumption | refine Below.alloc ?_ (by first | omega | (simp; done) | (simp; omega)) _ | refine Below.setCell ?_ (by first | omega | (simp; done) | (simp; omega)) _ | refine Below.drew ?_)⟩

set_option maxRecDepth 100000 in
set_option maxHeartbeats 4000000 in
theorem eqPersonS_any (v1 v2 : Value) (ws : List Pn) (w : World) (hv1 : PnsAt w v1 ws) (hv2 : PnsAt w v2 ws) :
    Calls Tryz.prog 37 #[v1, v2] w fun e w' => e = .returned (.bool true) ∧ Below w.heap.size w w' := by
  have HW1 := Lib.hid hv1
  have HW2 := Lib.hid hv2
  obtain ⟨a1, c1, rfl, hl1, hm1, _⟩ := hv1
  obtain ⟨a2, c2, rfl, hl2, hm2, _⟩ := hv2
  unfold maxLen at hm1 hm2
  generalize hn : ws.length = n at *
  have HN := Lib.hid hn
  have zn : ((n : Int) != (n : Int)) = false := by simp
  clear hn
  go_enter Tryz.func37, Tryz.ntmps37
  go_wp2
  go_loopw [5] (fun i wr => ∃ k : Nat, k ≤ n ∧ i = .int .i64 k ∧ Below w.heap.size w wr) (fun i _ => n - (intOf i).toNat)
  case atStart => exact ⟨0, Nat.zero_le _, rfl, Below.refl _ _⟩
  case round =>
    obtain ⟨k, hk, rfl, hb⟩ := hrel
    by_cases hlt : k < n
    · have hx : ws[k]? = some (ws[k]'(by rw [HN.out]; exact hlt)) := List.getElem?_eq_getElem _
      obtain ⟨g1, o1, rfl, hc1⟩ := pn_at (pns_below HW1.out hb) hx
      obtain ⟨g2, o2, rfl, hc2⟩ := pn_at (pns_below HW2.out hb) hx
      have HC1 := Lib.hid hc1
      have HC2 := Lib.hid hc2
      generalize (ws[k]'(by rw [HN.out]; exact hlt)) = x at *
      have z1 : (k : Int) < (n : Int) := by omega
      have z2 : (0 : Int) ≤ (k : Int) := by omega
      have z3 : decide ((k : Int) < (n : Int)) = true := decide_eq_true z1
      clear hc1 hc2 hx
      go_wp2
      refine wp_region_held_drew (S := (fun W => (∀ j v, (pnC x)[j]? = some v → W.cell? ⟨g1, o1 + k * 3 + j, none⟩ = some v) ∧ (∀ j v, (pnC x)[j]? = some v → W.cell? ⟨g2, o2 + k * 3 + j, none⟩ = some v) ∧ Below w.heap.size w W)) (by kernel_rfl) ⟨HC1.out, HC2.out, hb.drew⟩ (fun hHeld => ?_)
      refine take_op (i := 0) (d := 17) (v := ?_) rfl rfl (by kernel_rfl) (by kernel_rfl) (by kernel_rfl) (fun _ _ _ h => h) (Or.inl ⟨by rfl, ?hy0u1⟩) hHeld ?rest0u1
      case hy0u1 =>
        intro w' hS'
        go_simp
        try with_reducible rfl
      simp only [List.setIfInBounds_toArray, List.set_cons_zero, List.set_cons_succ]
      refine take_op (i := 1) (d := 18) (v := ?_) rfl rfl (by kernel_rfl) (by kernel_rfl) (by kernel_rfl) (fun _ _ _ h => h) (Or.inl ⟨by rfl, ?hy1u2⟩) hHeld ?rest1u2
      case hy1u2 =>
        intro w' hS'
        go_simp
        try with_reducible rfl
      simp only [List.setIfInBounds_toArray, List.set_cons_zero, List.set_cons_succ]
      refine take_op (i := 2) (d := 19) (v := ?_) rfl rfl (by kernel_rfl) (by kernel_rfl) (by kernel_rfl) (fun _ _ _ h => h) (Or.inl ⟨by rfl, ?hy2u3⟩) hHeld ?rest2u3
      case hy2u3 =>
        intro w' hS'
        go_simp
        try with_reducible rfl
      simp only [List.setIfInBounds_toArray, List.set_cons_zero, List.set_cons_succ]
      refine take_op (i := 3) (d := 20) (v := .agg (pnC x)) rfl rfl (by kernel_rfl) (by kernel_rfl) (by kernel_rfl) (fun _ _ _ h => h) (yields_cells (by rfl) 134 (.tmp 19) (by rfl) g1 (o1 + k * 3) 3 (by rfl) _ Tryz.underlying134 rfl info_pers (pnC x) rfl (fun W h => h.1)) hHeld ?_
      simp only [List.setIfInBounds_toArray, List.set_cons_zero, List.set_cons_succ]
      refine take_op (i := 4) (d := 21) (v := ?_) rfl rfl (by kernel_rfl) (by kernel_rfl) (by kernel_rfl) (fun _ _ _ h => h) (Or.inl ⟨by rfl, ?hy4u4⟩) hHeld ?rest4u4
      case hy4u4 =>
        intro w' hS'
        go_simp
        try with_reducible rfl
      simp only [List.setIfInBounds_toArray, List.set_cons_zero, List.set_cons_succ]
      refine take_op (i := 5) (d := 22) (v := ?_) rfl rfl (by kernel_rfl) (by kernel_rfl) (by kernel_rfl) (fun _ _ _ h => h) (Or.inl ⟨by rfl, ?hy5u5⟩) hHeld ?rest5u5
      case hy5u5 =>
        intro w' hS'
        go_simp
        try with_reducible rfl
      simp only [List.setIfInBounds_toArray, List.set_cons_zero, List.set_cons_succ]
      refine take_op (i := 6) (d := 23) (v := ?_) rfl rfl (by kernel_rfl) (by kernel_rfl) (by kernel_rfl) (fun _ _ _ h => h) (Or.inl ⟨by rfl, ?hy6u6⟩) hHeld ?rest6u6
      case hy6u6 =>
        intro w' hS'
        go_simp
        try with_reducible rfl
      simp only [List.setIfInBounds_toArray, List.set_cons_zero, List.set_cons_succ]
      refine take_op (i := 7) (d := 24) (v := .agg (pnC x)) rfl rfl (by kernel_rfl) (by kernel_rfl) (by kernel_rfl) (fun _ _ _ h => h) (yields_cells (by rfl) 134 (.tmp 23) (by rfl) g2 (o2 + k * 3) 3 (by rfl) _ Tryz.underlying134 rfl info_pers (pnC x) rfl (fun W h => h.2.1)) hHeld ?_
      simp only [List.setIfInBounds_toArray, List.set_cons_zero, List.set_cons_succ]
      refine wpAnyH_ready (rs := [8]) (by kernel_rfl) (by simp) ?_
      refine AllReadyH.cons rfl (fun K hK => ?_) AllReadyH.nil
      go_simp
      refine (eqPe_nan x.1 x.2.1 x.2.2 _).mono ?_
      rintro e W1 ⟨rfl, hb1⟩
      refine hK.out _ _ (⟨fun j v hv => cell_below hb1 (hHeld.1 j v hv), fun j v hv => cell_below hb1 (hHeld.2.1 j v hv), hHeld.2.2.trans (hb1.mono hHeld.2.2.size)⟩) (fun hHeld2 => ?_)
      clear hK K
      replace hHeld := hHeld2
      clear hHeld2
      refine take_op (i := 9) (d := 26) (v := ?_) rfl rfl (by kernel_rfl) (by kernel_rfl) (by kernel_rfl) (fun _ _ _ h => h) (Or.inl ⟨by rfl, ?hy9u7⟩) hHeld ?rest9u7
      case hy9u7 =>
        intro w' hS'
        go_simp
        try with_reducible rfl
      simp only [List.setIfInBounds_toArray, List.set_cons_zero, List.set_cons_succ]
      refine wpAnyH_done (by kernel_rfl) ?_ _
      have hbx := hHeld.2.2
      clear hHeld hb HC1 HC2
      go_wp2
      go_roundw
      case rel => exact ⟨k + 1, by omega, by go_num, hbx⟩
      case measure => simp [intOf]; omega
    · obtain rfl : k = n := by omega
      go_wp2
      go_ret
      exact ⟨rfl, hb⟩

end Go.Proofs.YtpcmcopfdghdgaaGreatDoor

namespace Go.Proofs.YtpcmcopfdghdgaaGreatDoor
open Go.RowKit

attribute [local go_sem] run_store_f

theorem info_tile : (Tryz.prog.info? 126).map (·.size) = some 2 := by kernel_rfl
theorem info_tileL : (Tryz.prog.info? 130).map (·.size) = some 2 := by kernel_rfl
theorem tile_fits (x y : Int) : 0 + 2 ≤ (tileC x y).size := Nat.le_refl _
theorem tile_all (x y : Int) : (tileC x y).extract 0 (0 + 2) = tileC x y := rfl
theorem tile_one (x y : Int) : ∀ v ∈ tileC x y, v.oneCell' = true := by
  intro v hv
  simp only [tileC, List.mem_toArray, List.mem_cons, List.not_mem_nil, or_false] at hv
  rcases hv with rfl | rfl <;> rfl
theorem tile_cells {x y : Int} {W : World} {g : Nat} {T : TypeId} {fr : Nat × Nat} (h : W.heap[g]? = some (.cells (tileC x y) T fr)) :
    W.cell? ⟨g, 0, none⟩ = some (.int .i8 x) ∧ W.cell? ⟨g, 1, none⟩ = some (.int .i8 y) :=
  ⟨by rw [cell_of_row W _ _ _ _ _ h]; rfl, by rw [cell_of_row W _ _ _ _ _ h]; rfl⟩
def RB (wd hg : Int) : Prop := 1 ≤ wd ∧ wd ≤ 10 ∧ 1 ≤ hg ∧ hg ≤ 10
theorem m_atR (n : Nat) (v : Value) (w : World) : (Go.method (n + 1) 262 v "loop.example/g01367/impl.tileAt").run Tryz.prog w = .ok (231, v) w := by kernel_rfl
theorem m_atC (n : Nat) (v : Value) (w : World) : (Go.method (n + 1) 263 v "loop.example/g01367/impl.tileAt").run Tryz.prog w = .ok (234, v) w := by kernel_rfl

set_option maxRecDepth 100000 in
set_option maxHeartbeats 1000000 in
theorem atR0_any (n wd hg a : Int) (sv : Value) (hn : n = 0) (hrb : RB wd hg) (w : World) :
    Calls Tryz.prog 231 #[.int .i8 n, .agg (roomC wd hg sv), .int .i8 a] w fun e w' => e = .returned (.agg (tileC (a) (0))) ∧ Below w.heap.size w w' := by
  have hd : (n == 0) = true := by simp [hn]
  obtain ⟨w0, w1, h0, h1⟩ := hrb
  clear hn
  unfold roomC tileC
  go_enter Tryz.func231, Tryz.ntmps231
  go_wp2
  refine bodyPost_ret (v := .agg #[.int .i8 (a), .int .i8 (0)]) (by simp [results, Tryz.results231, go_sem]) rfl ⟨rfl, ?_⟩
  (repeat' first | exact Below.refl _ _ | assumption | refine Below.alloc ?_ (by first | omega | (simp; done) | (simp; omega)) _ | refine Below.setCell ?_ (by first | omega | (simp; done) | (simp; omega)) _ | refine Below.drew ?_)

set_option maxRecDepth 100000 in
set_option maxHeartbeats 1000000 in
theorem atR1_any (n wd hg a : Int) (sv : Value) (hn : n ≠ 0) (hrb : RB wd hg) (w : World) :
    Calls Tryz.prog 231 #[.int .i8 n, .agg (roomC wd hg sv), .int .i8 a] w fun e w' => e = .returned (.agg (tileC (a) (hg - 1))) ∧ Below w.heap.size w w' := by
  have hd : (n == 0) = false := by simpa using hn
  obtain ⟨w0, w1, h0, h1⟩ := hrb
  clear hn
  unfold roomC tileC
  go_enter Tryz.func231, Tryz.ntmps231
  go_wp2
  refine bodyPost_ret (v := .agg #[.int .i8 (a), .int .i8 (hg - 1)]) (by simp [results, Tryz.results231, go_sem]) rfl ⟨rfl, ?_⟩
  (repeat' first | exact Below.refl _ _ | assumption | refine Below.alloc ?_ (by first | omega | (simp; done) | (simp; omega)) _ | refine Below.setCell ?_ (by first | omega | (simp; done) | (simp; omega)) _ | refine Below.drew ?_)

set_option maxRecDepth 100000 in
set_option maxHeartbeats 1000000 in
theorem atC0_any (n wd hg a : Int) (sv : Value) (hn : n = 3) (hrb : RB wd hg) (w : World) :
    Calls Tryz.prog 234 #[.int .i8 n, .agg (roomC wd hg sv), .int .i8 a] w fun e w' => e = .returned (.agg (tileC (0) (a))) ∧ Below w.heap.size w w' := by
  have hd : (n == 3) = true := by simp [hn]
  obtain ⟨w0, w1, h0, h1⟩ := hrb
  clear hn
  unfold roomC tileC
  go_enter Tryz.func234, Tryz.ntmps234
  go_wp2
  refine bodyPost_ret (v := .agg #[.int .i8 (0), .int .i8 (a)]) (by simp [results, Tryz.results234, go_sem]) rfl ⟨rfl, ?_⟩
  (repeat' first | exact Below.refl _ _ | assumption | refine Below.alloc ?_ (by first | omega | (simp; done) | (simp; omega)) _ | refine Below.setCell ?_ (by first | omega | (simp; done) | (simp; omega)) _ | refine Below.drew ?_)

set_option maxRecDepth 100000 in
set_option maxHeartbeats 1000000 in
theorem atC1_any (n wd hg a : Int) (sv : Value) (hn : n ≠ 3) (hrb : RB wd hg) (w : World) :
    Calls Tryz.prog 234 #[.int .i8 n, .agg (roomC wd hg sv), .int .i8 a] w fun e w' => e = .returned (.agg (tileC (wd - 1) (a))) ∧ Below w.heap.size w w' := by
  have hd : (n == 3) = false := by simpa using hn
  obtain ⟨w0, w1, h0, h1⟩ := hrb
  clear hn
  unfold roomC tileC
  go_enter Tryz.func234, Tryz.ntmps234
  go_wp2
  refine bodyPost_ret (v := .agg #[.int .i8 (wd - 1), .int .i8 (a)]) (by simp [results, Tryz.results234, go_sem]) rfl ⟨rfl, ?_⟩
  (repeat' first | exact Below.refl _ _ | assumption | refine Below.alloc ?_ (by first | omega | (simp; done) | (simp; omega)) _ | refine Below.setCell ?_ (by first | omega | (simp; done) | (simp; omega)) _ | refine Below.drew ?_)

theorem run_store_row {P : Program} (w : World) (g : Nat) (t : TypeId) (vs old : Array Value) (hg : w.heap[g]? = some (.cells old t (0, 0))) (hs : old.size = vs.size) (h1 : ∀ v ∈ vs, v.oneCell' = true) :
    (storeCells ⟨g, 0, none⟩ vs.toList).run P w = .ok () (w.setRow g vs) := by
  have hst := run_storeCells_at P g 0 t vs.toList 0 old w hg (by simp; omega) (fun v hv => h1 v (by simpa using hv))
  have hl := laid_allr old vs hs
  unfold laid at hl
  simp only [Nat.add_zero] at hst
  rw [hst]
  simp at hl ⊢
  rw [hl]

set_option maxRecDepth 100000 in
set_option maxHeartbeats 1000000 in
theorem pl0_any (wd hg : Int) (sv : Value) (x : Wn) (hx : x.1 = 0) (hrb : RB wd hg) (w : World) :
    Calls Tryz.prog 194 #[.agg (roomC wd hg sv), .agg (winC x)] w fun e w' => e = .returned (.agg (tileC (x.2.1) (0))) ∧ Below w.heap.size w w' := by
  have Hwall := Lib.hid (fun w => wallOf_row x.1 (.inl hx) w)
  unfold rowV at Hwall
  have mT := m_atR
  have HT := Lib.hid (fun w => atR0_any x.1 wd hg x.2.1 sv (by omega) hrb w)
  clear hx
  have HA := Lib.hid (three_at w (.cells (roomC wd hg sv) 70) (.cells (winC x) 174) (.cells (tileC 0 0) 126))
  go_enter Tryz.func194, Tryz.ntmps194
  go_wp2
  refine wp_region_held_drew (S := (fun W => W.heap[w.heap.size]? = some (.cells (roomC wd hg sv) 70 (0, 0)) ∧ W.heap[w.heap.size + 1]? = some (.cells (winC x) 174 (0, 0)) ∧ (∃ old : Array Value, W.heap[w.heap.size + 1 + 1]? = some (.cells old 126 (0, 0)) ∧ old.size = 2) ∧ Below w.heap.size w W)) (by kernel_rfl) ⟨HA.out.1, HA.out.2.1, ⟨_, HA.out.2.2.1, rfl⟩, HA.out.2.2.2.drew⟩ (fun hHeld => ?_)
  refine take_op (i := 0) (d := 5) (v := ?_) rfl rfl (by kernel_rfl) (by kernel_rfl) (by kernel_rfl) (fun _ _ _ h => h) (Or.inl ⟨by rfl, ?hy0u1⟩) hHeld ?rest0u1
  case hy0u1 =>
    intro w' hS'
    go_simp
    try with_reducible rfl
  simp only [List.setIfInBounds_toArray, List.set_cons_zero, List.set_cons_succ]
  refine take_op (i := 1) (d := 6) (v := ?_) rfl rfl (by kernel_rfl) (by kernel_rfl) (by kernel_rfl) (fun _ _ _ h => h) (Or.inl ⟨by rfl, ?hy1u2⟩) hHeld ?rest1u2
  case hy1u2 =>
    intro w' hS'
    obtain ⟨_, s1, _⟩ := hS'
    obtain ⟨k0, k1, k2⟩ := win_cells s1
    clear s1
    go_simp
    try with_reducible rfl
  simp only [List.setIfInBounds_toArray, List.set_cons_zero, List.set_cons_succ]
  refine take_op (i := 4) (d := 9) (v := ?_) rfl rfl (by kernel_rfl) (by kernel_rfl) (by kernel_rfl) (fun _ _ _ h => h) (Or.inl ⟨by rfl, ?hy4u3⟩) hHeld ?rest4u3
  case hy4u3 =>
    intro w' hS'
    go_simp
    try with_reducible rfl
  simp only [List.setIfInBounds_toArray, List.set_cons_zero, List.set_cons_succ]
  refine take_op (i := 5) (d := 10) (v := ?_) rfl rfl (by kernel_rfl) (by kernel_rfl) (by kernel_rfl) (fun _ _ _ h => h) (Or.inl ⟨by rfl, ?hy5u4⟩) hHeld ?rest5u4
  case hy5u4 =>
    intro w' hS'
    obtain ⟨_, s1, _⟩ := hS'
    obtain ⟨k0, k1, k2⟩ := win_cells s1
    clear s1
    go_simp
    try with_reducible rfl
  simp only [List.setIfInBounds_toArray, List.set_cons_zero, List.set_cons_succ]
  refine take_op (i := 3) (d := 8) (v := .agg (roomC wd hg sv)) rfl rfl (by kernel_rfl) (by kernel_rfl) (by kernel_rfl) (fun _ _ _ h => h) (yields_row (by rfl) 70 (.tmp 2) (by rfl) w.heap.size 0 3 (by rfl) 70 (roomC wd hg sv) (0, 0) _ (fun _ h => h.1) Tryz.underlying70 rfl info_room (room_fits _ _ _) (roomC wd hg sv) (room_all _ _ _)) hHeld ?_
  simp only [List.setIfInBounds_toArray, List.set_cons_zero, List.set_cons_succ]
  refine wpAnyH_ready (rs := [2]) (by kernel_rfl) (by simp) ?_
  refine AllReadyH.cons rfl (fun K hK => ?_) AllReadyH.nil
  go_simp
  refine (Hwall.out _).mono ?_
  rintro e w' ⟨rfl, rfl⟩
  refine hK.out _ _ (hHeld) (fun hHeld2 => ?_)
  clear hK K
  replace hHeld := hHeld2
  clear hHeld2
  refine wpAnyH_ready (rs := [6]) (by kernel_rfl) (by simp) ?_
  refine AllReadyH.cons rfl (fun K hK => ?_) AllReadyH.nil
  go_simp
  refine (HT.out _).mono ?_
  rintro e W1 ⟨rfl, hb1⟩
  refine hK.out _ _ (⟨below_row hb1 hHeld.1, below_row hb1 hHeld.2.1, hHeld.2.2.1.imp (fun _ h => ⟨below_row hb1 h.1, h.2⟩), hHeld.2.2.2.trans (hb1.mono hHeld.2.2.2.size)⟩) (fun hHeld2 => ?_)
  clear hK K
  replace hHeld := hHeld2
  clear hHeld2
  obtain ⟨old, ho, hos⟩ := hHeld.2.2.1
  have hst := run_store_row (P := Tryz.prog) W1 (w.heap.size + 1 + 1) 126 (tileC (x.2.1) (0)) old ho (by rw [hos]; rfl) (tile_one _ _)
  have hsz : (tileC (x.2.1) (0)).size = 2 := rfl
  have HFin := Lib.hid (setRow_heap W1 (w.heap.size + 1 + 1) _ (tileC (x.2.1) (0)) _ _ ho)
  refine wpAnyH_ready (rs := [7]) (by kernel_rfl) (by simp) ?_
  refine AllReadyH.cons rfl (fun K hK => ?_) AllReadyH.nil
  go_simp
  refine hK.out _ _ ⟨by rw [setRow_other _ _ _ _ (by omega)]; exact hHeld.1, by rw [setRow_other _ _ _ _ (by omega)]; exact hHeld.2.1, ⟨_, HFin.out, rfl⟩, below_setRow hHeld.2.2.2 (by omega) _⟩ (fun hHeld2 => ?_)
  have hbz := hHeld2.2.2.2
  clear hK K hst hHeld hHeld2
  refine wpAnyH_done (by kernel_rfl) ?_ _
  go_wp2
  exact bodyPost_ret (v := .agg (tileC (x.2.1) (0))) (results_cell_row rfl _ _ _ _ _ _ _ rfl HFin.out Tryz.underlying126 rfl (by kernel_rfl)) rfl ⟨rfl, hbz⟩

set_option maxRecDepth 100000 in
set_option maxHeartbeats 1000000 in
theorem pl1_any (wd hg : Int) (sv : Value) (x : Wn) (hx : x.1 = 1) (hrb : RB wd hg) (w : World) :
    Calls Tryz.prog 194 #[.agg (roomC wd hg sv), .agg (winC x)] w fun e w' => e = .returned (.agg (tileC (wd - 1) (x.2.1))) ∧ Below w.heap.size w w' := by
  have Hwall := Lib.hid (fun w => wallOf_col x.1 (.inl hx) w)
  unfold colV at Hwall
  have mT := m_atC
  have HT := Lib.hid (fun w => atC1_any x.1 wd hg x.2.1 sv (by omega) hrb w)
  clear hx
  have HA := Lib.hid (three_at w (.cells (roomC wd hg sv) 70) (.cells (winC x) 174) (.cells (tileC 0 0) 126))
  go_enter Tryz.func194, Tryz.ntmps194
  go_wp2
  refine wp_region_held_drew (S := (fun W => W.heap[w.heap.size]? = some (.cells (roomC wd hg sv) 70 (0, 0)) ∧ W.heap[w.heap.size + 1]? = some (.cells (winC x) 174 (0, 0)) ∧ (∃ old : Array Value, W.heap[w.heap.size + 1 + 1]? = some (.cells old 126 (0, 0)) ∧ old.size = 2) ∧ Below w.heap.size w W)) (by kernel_rfl) ⟨HA.out.1, HA.out.2.1, ⟨_, HA.out.2.2.1, rfl⟩, HA.out.2.2.2.drew⟩ (fun hHeld => ?_)
  refine take_op (i := 0) (d := 5) (v := ?_) rfl rfl (by kernel_rfl) (by kernel_rfl) (by kernel_rfl) (fun _ _ _ h => h) (Or.inl ⟨by rfl, ?hy0u1⟩) hHeld ?rest0u1
  case hy0u1 =>
    intro w' hS'
    go_simp
    try with_reducible rfl
  simp only [List.setIfInBounds_toArray, List.set_cons_zero, List.set_cons_succ]
  refine take_op (i := 1) (d := 6) (v := ?_) rfl rfl (by kernel_rfl) (by kernel_rfl) (by kernel_rfl) (fun _ _ _ h => h) (Or.inl ⟨by rfl, ?hy1u2⟩) hHeld ?rest1u2
  case hy1u2 =>
    intro w' hS'
    obtain ⟨_, s1, _⟩ := hS'
    obtain ⟨k0, k1, k2⟩ := win_cells s1
    clear s1
    go_simp
    try with_reducible rfl
  simp only [List.setIfInBounds_toArray, List.set_cons_zero, List.set_cons_succ]
  refine take_op (i := 4) (d := 9) (v := ?_) rfl rfl (by kernel_rfl) (by kernel_rfl) (by kernel_rfl) (fun _ _ _ h => h) (Or.inl ⟨by rfl, ?hy4u3⟩) hHeld ?rest4u3
  case hy4u3 =>
    intro w' hS'
    go_simp
    try with_reducible rfl
  simp only [List.setIfInBounds_toArray, List.set_cons_zero, List.set_cons_succ]
  refine take_op (i := 5) (d := 10) (v := ?_) rfl rfl (by kernel_rfl) (by kernel_rfl) (by kernel_rfl) (fun _ _ _ h => h) (Or.inl ⟨by rfl, ?hy5u4⟩) hHeld ?rest5u4
  case hy5u4 =>
    intro w' hS'
    obtain ⟨_, s1, _⟩ := hS'
    obtain ⟨k0, k1, k2⟩ := win_cells s1
    clear s1
    go_simp
    try with_reducible rfl
  simp only [List.setIfInBounds_toArray, List.set_cons_zero, List.set_cons_succ]
  refine take_op (i := 3) (d := 8) (v := .agg (roomC wd hg sv)) rfl rfl (by kernel_rfl) (by kernel_rfl) (by kernel_rfl) (fun _ _ _ h => h) (yields_row (by rfl) 70 (.tmp 2) (by rfl) w.heap.size 0 3 (by rfl) 70 (roomC wd hg sv) (0, 0) _ (fun _ h => h.1) Tryz.underlying70 rfl info_room (room_fits _ _ _) (roomC wd hg sv) (room_all _ _ _)) hHeld ?_
  simp only [List.setIfInBounds_toArray, List.set_cons_zero, List.set_cons_succ]
  refine wpAnyH_ready (rs := [2]) (by kernel_rfl) (by simp) ?_
  refine AllReadyH.cons rfl (fun K hK => ?_) AllReadyH.nil
  go_simp
  refine (Hwall.out _).mono ?_
  rintro e w' ⟨rfl, rfl⟩
  refine hK.out _ _ (hHeld) (fun hHeld2 => ?_)
  clear hK K
  replace hHeld := hHeld2
  clear hHeld2
  refine wpAnyH_ready (rs := [6]) (by kernel_rfl) (by simp) ?_
  refine AllReadyH.cons rfl (fun K hK => ?_) AllReadyH.nil
  go_simp
  refine (HT.out _).mono ?_
  rintro e W1 ⟨rfl, hb1⟩
  refine hK.out _ _ (⟨below_row hb1 hHeld.1, below_row hb1 hHeld.2.1, hHeld.2.2.1.imp (fun _ h => ⟨below_row hb1 h.1, h.2⟩), hHeld.2.2.2.trans (hb1.mono hHeld.2.2.2.size)⟩) (fun hHeld2 => ?_)
  clear hK K
  replace hHeld := hHeld2
  clear hHeld2
  obtain ⟨old, ho, hos⟩ := hHeld.2.2.1
  have hst := run_store_row (P := Tryz.prog) W1 (w.heap.size + 1 + 1) 126 (tileC (wd - 1) (x.2.1)) old ho (by rw [hos]; rfl) (tile_one _ _)
  have hsz : (tileC (wd - 1) (x.2.1)).size = 2 := rfl
  have HFin := Lib.hid (setRow_heap W1 (w.heap.size + 1 + 1) _ (tileC (wd - 1) (x.2.1)) _ _ ho)
  refine wpAnyH_ready (rs := [7]) (by kernel_rfl) (by simp) ?_
  refine AllReadyH.cons rfl (fun K hK => ?_) AllReadyH.nil
  go_simp
  refine hK.out _ _ ⟨by rw [setRow_other _ _ _ _ (by omega)]; exact hHeld.1, by rw [setRow_other _ _ _ _ (by omega)]; exact hHeld.2.1, ⟨_, HFin.out, rfl⟩, below_setRow hHeld.2.2.2 (by omega) _⟩ (fun hHeld2 => ?_)
  have hbz := hHeld2.2.2.2
  clear hK K hst hHeld hHeld2
  refine wpAnyH_done (by kernel_rfl) ?_ _
  go_wp2
  exact bodyPost_ret (v := .agg (tileC (wd - 1) (x.2.1))) (results_cell_row rfl _ _ _ _ _ _ _ rfl HFin.out Tryz.underlying126 rfl (by kernel_rfl)) rfl ⟨rfl, hbz⟩

set_option maxRecDepth 100000 in
set_option maxHeartbeats 1000000 in
theorem pl2_any (wd hg : Int) (sv : Value) (x : Wn) (hx : x.1 = 2) (hrb : RB wd hg) (w : World) :
    Calls Tryz.prog 194 #[.agg (roomC wd hg sv), .agg (winC x)] w fun e w' => e = .returned (.agg (tileC (x.2.1) (hg - 1))) ∧ Below w.heap.size w w' := by
  have Hwall := Lib.hid (fun w => wallOf_row x.1 (.inr hx) w)
  unfold rowV at Hwall
  have mT := m_atR
  have HT := Lib.hid (fun w => atR1_any x.1 wd hg x.2.1 sv (by omega) hrb w)
  clear hx
  have HA := Lib.hid (three_at w (.cells (roomC wd hg sv) 70) (.cells (winC x) 174) (.cells (tileC 0 0) 126))
  go_enter Tryz.func194, Tryz.ntmps194
  go_wp2
  refine wp_region_held_drew (S := (fun W => W.heap[w.heap.size]? = some (.cells (roomC wd hg sv) 70 (0, 0)) ∧ W.heap[w.heap.size + 1]? = some (.cells (winC x) 174 (0, 0)) ∧ (∃ old : Array Value, W.heap[w.heap.size + 1 + 1]? = some (.cells old 126 (0, 0)) ∧ old.size = 2) ∧ Below w.heap.size w W)) (by kernel_rfl) ⟨HA.out.1, HA.out.2.1, ⟨_, HA.out.2.2.1, rfl⟩, HA.out.2.2.2.drew⟩ (fun hHeld => ?_)
  refine take_op (i := 0) (d := 5) (v := ?_) rfl rfl (by kernel_rfl) (by kernel_rfl) (by kernel_rfl) (fun _ _ _ h => h) (Or.inl ⟨by rfl, ?hy0u1⟩) hHeld ?rest0u1
  case hy0u1 =>
    intro w' hS'
    go_simp
    try with_reducible rfl
  simp only [List.setIfInBounds_toArray, List.set_cons_zero, List.set_cons_succ]
  refine take_op (i := 1) (d := 6) (v := ?_) rfl rfl (by kernel_rfl) (by kernel_rfl) (by kernel_rfl) (fun _ _ _ h => h) (Or.inl ⟨by rfl, ?hy1u2⟩) hHeld ?rest1u2
  case hy1u2 =>
    intro w' hS'
    obtain ⟨_, s1, _⟩ := hS'
    obtain ⟨k0, k1, k2⟩ := win_cells s1
    clear s1
    go_simp
    try with_reducible rfl
  simp only [List.setIfInBounds_toArray, List.set_cons_zero, List.set_cons_succ]
  refine take_op (i := 4) (d := 9) (v := ?_) rfl rfl (by kernel_rfl) (by kernel_rfl) (by kernel_rfl) (fun _ _ _ h => h) (Or.inl ⟨by rfl, ?hy4u3⟩) hHeld ?rest4u3
  case hy4u3 =>
    intro w' hS'
    go_simp
    try with_reducible rfl
  simp only [List.setIfInBounds_toArray, List.set_cons_zero, List.set_cons_succ]
  refine take_op (i := 5) (d := 10) (v := ?_) rfl rfl (by kernel_rfl) (by kernel_rfl) (by kernel_rfl) (fun _ _ _ h => h) (Or.inl ⟨by rfl, ?hy5u4⟩) hHeld ?rest5u4
  case hy5u4 =>
    intro w' hS'
    obtain ⟨_, s1, _⟩ := hS'
    obtain ⟨k0, k1, k2⟩ := win_cells s1
    clear s1
    go_simp
    try with_reducible rfl
  simp only [List.setIfInBounds_toArray, List.set_cons_zero, List.set_cons_succ]
  refine take_op (i := 3) (d := 8) (v := .agg (roomC wd hg sv)) rfl rfl (by kernel_rfl) (by kernel_rfl) (by kernel_rfl) (fun _ _ _ h => h) (yields_row (by rfl) 70 (.tmp 2) (by rfl) w.heap.size 0 3 (by rfl) 70 (roomC wd hg sv) (0, 0) _ (fun _ h => h.1) Tryz.underlying70 rfl info_room (room_fits _ _ _) (roomC wd hg sv) (room_all _ _ _)) hHeld ?_
  simp only [List.setIfInBounds_toArray, List.set_cons_zero, List.set_cons_succ]
  refine wpAnyH_ready (rs := [2]) (by kernel_rfl) (by simp) ?_
  refine AllReadyH.cons rfl (fun K hK => ?_) AllReadyH.nil
  go_simp
  refine (Hwall.out _).mono ?_
  rintro e w' ⟨rfl, rfl⟩
  refine hK.out _ _ (hHeld) (fun hHeld2 => ?_)
  clear hK K
  replace hHeld := hHeld2
  clear hHeld2
  refine wpAnyH_ready (rs := [6]) (by kernel_rfl) (by simp) ?_
  refine AllReadyH.cons rfl (fun K hK => ?_) AllReadyH.nil
  go_simp
  refine (HT.out _).mono ?_
  rintro e W1 ⟨rfl, hb1⟩
  refine hK.out _ _ (⟨below_row hb1 hHeld.1, below_row hb1 hHeld.2.1, hHeld.2.2.1.imp (fun _ h => ⟨below_row hb1 h.1, h.2⟩), hHeld.2.2.2.trans (hb1.mono hHeld.2.2.2.size)⟩) (fun hHeld2 => ?_)
  clear hK K
  replace hHeld := hHeld2
  clear hHeld2
  obtain ⟨old, ho, hos⟩ := hHeld.2.2.1
  have hst := run_store_row (P := Tryz.prog) W1 (w.heap.size + 1 + 1) 126 (tileC (x.2.1) (hg - 1)) old ho (by rw [hos]; rfl) (tile_one _ _)
  have hsz : (tileC (x.2.1) (hg - 1)).size = 2 := rfl
  have HFin := Lib.hid (setRow_heap W1 (w.heap.size + 1 + 1) _ (tileC (x.2.1) (hg - 1)) _ _ ho)
  refine wpAnyH_ready (rs := [7]) (by kernel_rfl) (by simp) ?_
  refine AllReadyH.cons rfl (fun K hK => ?_) AllReadyH.nil
  go_simp
  refine hK.out _ _ ⟨by rw [setRow_other _ _ _ _ (by omega)]; exact hHeld.1, by rw [setRow_other _ _ _ _ (by omega)]; exact hHeld.2.1, ⟨_, HFin.out, rfl⟩, below_setRow hHeld.2.2.2 (by omega) _⟩ (fun hHeld2 => ?_)
  have hbz := hHeld2.2.2.2
  clear hK K hst hHeld hHeld2
  refine wpAnyH_done (by kernel_rfl) ?_ _
  go_wp2
  exact bodyPost_ret (v := .agg (tileC (x.2.1) (hg - 1))) (results_cell_row rfl _ _ _ _ _ _ _ rfl HFin.out Tryz.underlying126 rfl (by kernel_rfl)) rfl ⟨rfl, hbz⟩

set_option maxRecDepth 100000 in
set_option maxHeartbeats 1000000 in
theorem pl3_any (wd hg : Int) (sv : Value) (x : Wn) (hx : x.1 = 3) (hrb : RB wd hg) (w : World) :
    Calls Tryz.prog 194 #[.agg (roomC wd hg sv), .agg (winC x)] w fun e w' => e = .returned (.agg (tileC (0) (x.2.1))) ∧ Below w.heap.size w w' := by
  have Hwall := Lib.hid (fun w => wallOf_col x.1 (.inr hx) w)
  unfold colV at Hwall
  have mT := m_atC
  have HT := Lib.hid (fun w => atC0_any x.1 wd hg x.2.1 sv (by omega) hrb w)
  clear hx
  have HA := Lib.hid (three_at w (.cells (roomC wd hg sv) 70) (.cells (winC x) 174) (.cells (tileC 0 0) 126))
  go_enter Tryz.func194, Tryz.ntmps194
  go_wp2
  refine wp_region_held_drew (S := (fun W => W.heap[w.heap.size]? = some (.cells (roomC wd hg sv) 70 (0, 0)) ∧ W.heap[w.heap.size + 1]? = some (.cells (winC x) 174 (0, 0)) ∧ (∃ old : Array Value, W.heap[w.heap.size + 1 + 1]? = some (.cells old 126 (0, 0)) ∧ old.size = 2) ∧ Below w.heap.size w W)) (by kernel_rfl) ⟨HA.out.1, HA.out.2.1, ⟨_, HA.out.2.2.1, rfl⟩, HA.out.2.2.2.drew⟩ (fun hHeld => ?_)
  refine take_op (i := 0) (d := 5) (v := ?_) rfl rfl (by kernel_rfl) (by kernel_rfl) (by kernel_rfl) (fun _ _ _ h => h) (Or.inl ⟨by rfl, ?hy0u1⟩) hHeld ?rest0u1
  case hy0u1 =>
    intro w' hS'
    go_simp
    try with_reducible rfl
  simp only [List.setIfInBounds_toArray, List.set_cons_zero, List.set_cons_succ]
  refine take_op (i := 1) (d := 6) (v := ?_) rfl rfl (by kernel_rfl) (by kernel_rfl) (by kernel_rfl) (fun _ _ _ h => h) (Or.inl ⟨by rfl, ?hy1u2⟩) hHeld ?rest1u2
  case hy1u2 =>
    intro w' hS'
    obtain ⟨_, s1, _⟩ := hS'
    obtain ⟨k0, k1, k2⟩ := win_cells s1
    clear s1
    go_simp
    try with_reducible rfl
  simp only [List.setIfInBounds_toArray, List.set_cons_zero, List.set_cons_succ]
  refine take_op (i := 4) (d := 9) (v := ?_) rfl rfl (by kernel_rfl) (by kernel_rfl) (by kernel_rfl) (fun _ _ _ h => h) (Or.inl ⟨by rfl, ?hy4u3⟩) hHeld ?rest4u3
  case hy4u3 =>
    intro w' hS'
    go_simp
    try with_reducible rfl
  simp only [List.setIfInBounds_toArray, List.set_cons_zero, List.set_cons_succ]
  refine take_op (i := 5) (d := 10) (v := ?_) rfl rfl (by kernel_rfl) (by kernel_rfl) (by kernel_rfl) (fun _ _ _ h => h) (Or.inl ⟨by rfl, ?hy5u4⟩) hHeld ?rest5u4
  case hy5u4 =>
    intro w' hS'
    obtain ⟨_, s1, _⟩ := hS'
    obtain ⟨k0, k1, k2⟩ := win_cells s1
    clear s1
    go_simp
    try with_reducible rfl
  simp only [List.setIfInBounds_toArray, List.set_cons_zero, List.set_cons_succ]
  refine take_op (i := 3) (d := 8) (v := .agg (roomC wd hg sv)) rfl rfl (by kernel_rfl) (by kernel_rfl) (by kernel_rfl) (fun _ _ _ h => h) (yields_row (by rfl) 70 (.tmp 2) (by rfl) w.heap.size 0 3 (by rfl) 70 (roomC wd hg sv) (0, 0) _ (fun _ h => h.1) Tryz.underlying70 rfl info_room (room_fits _ _ _) (roomC wd hg sv) (room_all _ _ _)) hHeld ?_
  simp only [List.setIfInBounds_toArray, List.set_cons_zero, List.set_cons_succ]
  refine wpAnyH_ready (rs := [2]) (by kernel_rfl) (by simp) ?_
  refine AllReadyH.cons rfl (fun K hK => ?_) AllReadyH.nil
  go_simp
  refine (Hwall.out _).mono ?_
  rintro e w' ⟨rfl, rfl⟩
  refine hK.out _ _ (hHeld) (fun hHeld2 => ?_)
  clear hK K
  replace hHeld := hHeld2
  clear hHeld2
  refine wpAnyH_ready (rs := [6]) (by kernel_rfl) (by simp) ?_
  refine AllReadyH.cons rfl (fun K hK => ?_) AllReadyH.nil
  go_simp
  refine (HT.out _).mono ?_
  rintro e W1 ⟨rfl, hb1⟩
  refine hK.out _ _ (⟨below_row hb1 hHeld.1, below_row hb1 hHeld.2.1, hHeld.2.2.1.imp (fun _ h => ⟨below_row hb1 h.1, h.2⟩), hHeld.2.2.2.trans (hb1.mono hHeld.2.2.2.size)⟩) (fun hHeld2 => ?_)
  clear hK K
  replace hHeld := hHeld2
  clear hHeld2
  obtain ⟨old, ho, hos⟩ := hHeld.2.2.1
  have hst := run_store_row (P := Tryz.prog) W1 (w.heap.size + 1 + 1) 126 (tileC (0) (x.2.1)) old ho (by rw [hos]; rfl) (tile_one _ _)
  have hsz : (tileC (0) (x.2.1)).size = 2 := rfl
  have HFin := Lib.hid (setRow_heap W1 (w.heap.size + 1 + 1) _ (tileC (0) (x.2.1)) _ _ ho)
  refine wpAnyH_ready (rs := [7]) (by kernel_rfl) (by simp) ?_
  refine AllReadyH.cons rfl (fun K hK => ?_) AllReadyH.nil
  go_simp
  refine hK.out _ _ ⟨by rw [setRow_other _ _ _ _ (by omega)]; exact hHeld.1, by rw [setRow_other _ _ _ _ (by omega)]; exact hHeld.2.1, ⟨_, HFin.out, rfl⟩, below_setRow hHeld.2.2.2 (by omega) _⟩ (fun hHeld2 => ?_)
  have hbz := hHeld2.2.2.2
  clear hK K hst hHeld hHeld2
  refine wpAnyH_done (by kernel_rfl) ?_ _
  go_wp2
  exact bodyPost_ret (v := .agg (tileC (0) (x.2.1))) (results_cell_row rfl _ _ _ _ _ _ _ rfl HFin.out Tryz.underlying126 rfl (by kernel_rfl)) rfl ⟨rfl, hbz⟩

end Go.Proofs.YtpcmcopfdghdgaaGreatDoor

namespace Go.Proofs.YtpcmcopfdghdgaaGreatDoor
open Go.RowKit

attribute [local go_sem] run_store_f

theorem tlW_0 {wd hg : Int} {x : Wn} (h : x.1 = 0) : tlW wd hg x = (x.2.1, 0) := if_pos h
theorem tlW_1 {wd hg : Int} {x : Wn} (h : x.1 = 1) : tlW wd hg x = (wd - 1, x.2.1) := by unfold tlW; rw [if_neg (by omega), if_pos h]
theorem tlW_2 {wd hg : Int} {x : Wn} (h : x.1 = 2) : tlW wd hg x = (x.2.1, hg - 1) := by unfold tlW; rw [if_neg (by omega), if_neg (by omega), if_pos h]
theorem tlW_3 {wd hg : Int} {x : Wn} (h : x.1 = 3) : tlW wd hg x = (0, x.2.1) := by unfold tlW; rw [if_neg (by omega), if_neg (by omega), if_neg (by omega)]
theorem placeOf_any (wd hg : Int) (sv : Value) (x : Wn) (hf : FitOk wd hg x) (hrb : RB wd hg) (w : World) :
    Calls Tryz.prog 194 #[.agg (roomC wd hg sv), .agg (winC x)] w fun e w' => e = .returned (.agg (tileC (tlW wd hg x).1 (tlW wd hg x).2)) ∧ Below w.heap.size w w' := by
  have l0 := hf.l0
  have l1 := hf.l1
  have hc : x.1 = 0 ∨ x.1 = 1 ∨ x.1 = 2 ∨ x.1 = 3 := by omega
  rcases hc with h | h | h | h
  · rw [tlW_0 h]; exact pl0_any wd hg sv x h hrb w
  · rw [tlW_1 h]; exact pl1_any wd hg sv x h hrb w
  · rw [tlW_2 h]; exact pl2_any wd hg sv x h hrb w
  · rw [tlW_3 h]; exact pl3_any wd hg sv x h hrb w

set_option maxRecDepth 100000 in
set_option maxHeartbeats 1000000 in
theorem spt0_any (wd hg : Int) (sv : Value) (x : Wn) (hx : x.1 = 0) (hrb : RB wd hg) (gb : Nat) (T : TypeId) (fr : Nat × Nat) (w : World) (hb0 : w.heap[gb]? = some (.cells (roomC wd hg sv) T fr)) :
    Calls Tryz.prog 193 #[.pointer (some ⟨gb, 0, none⟩), .agg (winC x)] w fun e w' => e = .returned (.agg (tileC (x.2.1) (0))) ∧ Below w.heap.size w w' := by
  obtain ⟨w0, w1, h0, h1⟩ := hrb
  have e0 : (x.1 == 0) = true := by rw [hx]; rfl
  clear hx
  have H0 := Lib.hid hb0
  clear hb0
  go_enter Tryz.func193, Tryz.ntmps193
  go_upto_region 1 with (fail)
  refine abs_world (fun W => W.heap[w.heap.size]? = some (.cells (winC x) 174 (0, 0)) ∧ W.heap[w.heap.size + 1]? = some (.cells (tileC 0 0) 126 (0, 0)) ∧ Below w.heap.size w W) (two_at w (.cells (winC x) 174) (.cells (tileC 0 0) 126)) ?_
  rintro W ⟨q0, q1, hb⟩
  obtain ⟨k0, k1, k2⟩ := win_cells q0
  obtain ⟨r0, r1, r2⟩ := room_cells (below_row hb H0.out)
  have H1 := Lib.hid q1
  clear H0 q0 q1
  go_wp2_with (refine wpList_store_part rfl 126 _ _ rfl (w.heap.size + 1) 0 (tileC (x.2.1) (0)) rfl rfl 126 _ H1.out (by kernel_rfl) (Nat.le_refl _) (tile_one _ _) ?_; rw [laid_allr _ _ (by rfl)])
  exact bodyPost_ret (v := .agg (tileC (x.2.1) (0))) (results_cell_row rfl _ _ _ _ _ _ _ rfl (setRow_heap _ _ _ _ _ _ H1.out) Tryz.underlying126 rfl (by kernel_rfl)) rfl ⟨rfl, below_setRow hb (by omega) _⟩

set_option maxRecDepth 100000 in
set_option maxHeartbeats 1000000 in
theorem spt1_any (wd hg : Int) (sv : Value) (x : Wn) (hx : x.1 = 1) (hrb : RB wd hg) (gb : Nat) (T : TypeId) (fr : Nat × Nat) (w : World) (hb0 : w.heap[gb]? = some (.cells (roomC wd hg sv) T fr)) :
    Calls Tryz.prog 193 #[.pointer (some ⟨gb, 0, none⟩), .agg (winC x)] w fun e w' => e = .returned (.agg (tileC (wd - 1) (x.2.1))) ∧ Below w.heap.size w w' := by
  obtain ⟨w0, w1, h0, h1⟩ := hrb
  have e0 : (x.1 == 0) = false := by rw [hx]; rfl
  have e1 : (x.1 == 1) = true := by rw [hx]; rfl
  clear hx
  have H0 := Lib.hid hb0
  clear hb0
  go_enter Tryz.func193, Tryz.ntmps193
  go_upto_region 1 with (fail)
  refine abs_world (fun W => W.heap[w.heap.size]? = some (.cells (winC x) 174 (0, 0)) ∧ W.heap[w.heap.size + 1]? = some (.cells (tileC 0 0) 126 (0, 0)) ∧ Below w.heap.size w W) (two_at w (.cells (winC x) 174) (.cells (tileC 0 0) 126)) ?_
  rintro W ⟨q0, q1, hb⟩
  obtain ⟨k0, k1, k2⟩ := win_cells q0
  obtain ⟨r0, r1, r2⟩ := room_cells (below_row hb H0.out)
  have H1 := Lib.hid q1
  clear H0 q0 q1
  go_upto_region 5 with (fail)
  have hwr : IntKind.i8.wrap (wd - 1) = wd - 1 := IntWalk.i8_in _ (by omega)
  refine wp_region_still_tail 8 (by kernel_rfl) (by kernel_rfl) ?_
  simp only [List.take_succ_cons, List.take_zero, List.drop_succ_cons, List.drop_zero]
  iterate 8 still_step
  refine wpStill_nil ?_
  have H2 : W.drew.heap[w.heap.size + 1]? = some (.cells (tileC 0 0) 126 (0, 0)) := H1.out
  have hb2 : Below w.heap.size w W.drew := hb.drew
  clear H1 hb k0 k1 k2 r0 r1 r2
  change wpList _ _ _ _ _ W.drew
  generalize W.drew = W2 at H2 hb2 ⊢
  refine wpList_store_part rfl 126 _ _ rfl (w.heap.size + 1) 0 (tileC (wd - 1) (x.2.1)) rfl rfl 126 _ H2 (by kernel_rfl) (Nat.le_refl _) (tile_one _ _) ?_
  rw [laid_allr _ _ (by rfl)]
  go_wp2
  exact bodyPost_ret (v := .agg (tileC (wd - 1) (x.2.1))) (results_cell_row rfl _ _ _ _ _ _ _ rfl (setRow_heap _ _ _ _ _ _ H2) Tryz.underlying126 rfl (by kernel_rfl)) rfl ⟨rfl, below_setRow hb2 (by omega) _⟩

set_option maxRecDepth 100000 in
set_option maxHeartbeats 1000000 in
theorem spt2_any (wd hg : Int) (sv : Value) (x : Wn) (hx : x.1 = 2) (hrb : RB wd hg) (gb : Nat) (T : TypeId) (fr : Nat × Nat) (w : World) (hb0 : w.heap[gb]? = some (.cells (roomC wd hg sv) T fr)) :
    Calls Tryz.prog 193 #[.pointer (some ⟨gb, 0, none⟩), .agg (winC x)] w fun e w' => e = .returned (.agg (tileC (x.2.1) (hg - 1))) ∧ Below w.heap.size w w' := by
  obtain ⟨w0, w1, h0, h1⟩ := hrb
  have e0 : (x.1 == 0) = false := by rw [hx]; rfl
  have e1 : (x.1 == 1) = false := by rw [hx]; rfl
  have e2 : (x.1 == 2) = true := by rw [hx]; rfl
  clear hx
  have H0 := Lib.hid hb0
  clear hb0
  go_enter Tryz.func193, Tryz.ntmps193
  go_upto_region 1 with (fail)
  refine abs_world (fun W => W.heap[w.heap.size]? = some (.cells (winC x) 174 (0, 0)) ∧ W.heap[w.heap.size + 1]? = some (.cells (tileC 0 0) 126 (0, 0)) ∧ Below w.heap.size w W) (two_at w (.cells (winC x) 174) (.cells (tileC 0 0) 126)) ?_
  rintro W ⟨q0, q1, hb⟩
  obtain ⟨k0, k1, k2⟩ := win_cells q0
  obtain ⟨r0, r1, r2⟩ := room_cells (below_row hb H0.out)
  have H1 := Lib.hid q1
  clear H0 q0 q1
  go_upto_region 7 with (fail)
  have hwr : IntKind.i8.wrap (hg - 1) = hg - 1 := IntWalk.i8_in _ (by omega)
  refine wp_region_still_tail 8 (by kernel_rfl) (by kernel_rfl) ?_
  simp only [List.take_succ_cons, List.take_zero, List.drop_succ_cons, List.drop_zero]
  iterate 8 still_step
  refine wpStill_nil ?_
  have H2 : W.drew.heap[w.heap.size + 1]? = some (.cells (tileC 0 0) 126 (0, 0)) := H1.out
  have hb2 : Below w.heap.size w W.drew := hb.drew
  clear H1 hb k0 k1 k2 r0 r1 r2
  change wpList _ _ _ _ _ W.drew
  generalize W.drew = W2 at H2 hb2 ⊢
  refine wpList_store_part rfl 126 _ _ rfl (w.heap.size + 1) 0 (tileC (x.2.1) (hg - 1)) rfl rfl 126 _ H2 (by kernel_rfl) (Nat.le_refl _) (tile_one _ _) ?_
  rw [laid_allr _ _ (by rfl)]
  go_wp2
  exact bodyPost_ret (v := .agg (tileC (x.2.1) (hg - 1))) (results_cell_row rfl _ _ _ _ _ _ _ rfl (setRow_heap _ _ _ _ _ _ H2) Tryz.underlying126 rfl (by kernel_rfl)) rfl ⟨rfl, below_setRow hb2 (by omega) _⟩

set_option maxRecDepth 100000 in
set_option maxHeartbeats 1000000 in
theorem spt3_any (wd hg : Int) (sv : Value) (x : Wn) (hx : x.1 = 3) (hrb : RB wd hg) (gb : Nat) (T : TypeId) (fr : Nat × Nat) (w : World) (hb0 : w.heap[gb]? = some (.cells (roomC wd hg sv) T fr)) :
    Calls Tryz.prog 193 #[.pointer (some ⟨gb, 0, none⟩), .agg (winC x)] w fun e w' => e = .returned (.agg (tileC (0) (x.2.1))) ∧ Below w.heap.size w w' := by
  obtain ⟨w0, w1, h0, h1⟩ := hrb
  have e0 : (x.1 == 0) = false := by rw [hx]; rfl
  have e1 : (x.1 == 1) = false := by rw [hx]; rfl
  have e2 : (x.1 == 2) = false := by rw [hx]; rfl
  clear hx
  have H0 := Lib.hid hb0
  clear hb0
  go_enter Tryz.func193, Tryz.ntmps193
  go_upto_region 1 with (fail)
  refine abs_world (fun W => W.heap[w.heap.size]? = some (.cells (winC x) 174 (0, 0)) ∧ W.heap[w.heap.size + 1]? = some (.cells (tileC 0 0) 126 (0, 0)) ∧ Below w.heap.size w W) (two_at w (.cells (winC x) 174) (.cells (tileC 0 0) 126)) ?_
  rintro W ⟨q0, q1, hb⟩
  obtain ⟨k0, k1, k2⟩ := win_cells q0
  obtain ⟨r0, r1, r2⟩ := room_cells (below_row hb H0.out)
  have H1 := Lib.hid q1
  clear H0 q0 q1
  go_wp2_with (refine wpList_store_part rfl 126 _ _ rfl (w.heap.size + 1) 0 (tileC (0) (x.2.1)) rfl rfl 126 _ H1.out (by kernel_rfl) (Nat.le_refl _) (tile_one _ _) ?_; rw [laid_allr _ _ (by rfl)])
  exact bodyPost_ret (v := .agg (tileC (0) (x.2.1))) (results_cell_row rfl _ _ _ _ _ _ _ rfl (setRow_heap _ _ _ _ _ _ H1.out) Tryz.underlying126 rfl (by kernel_rfl)) rfl ⟨rfl, below_setRow hb (by omega) _⟩

theorem l03Tile_any (wd hg : Int) (sv : Value) (x : Wn) (hf : FitOk wd hg x) (hrb : RB wd hg) (gb : Nat) (T : TypeId) (fr : Nat × Nat) (w : World) (hb0 : w.heap[gb]? = some (.cells (roomC wd hg sv) T fr)) :
    Calls Tryz.prog 193 #[.pointer (some ⟨gb, 0, none⟩), .agg (winC x)] w fun e w' => e = .returned (.agg (tileC (tlW wd hg x).1 (tlW wd hg x).2)) ∧ Below w.heap.size w w' := by
  have l0 := hf.l0
  have l1 := hf.l1
  have hc : x.1 = 0 ∨ x.1 = 1 ∨ x.1 = 2 ∨ x.1 = 3 := by omega
  rcases hc with h | h | h | h
  · rw [tlW_0 h]; exact spt0_any wd hg sv x h hrb gb T fr w hb0
  · rw [tlW_1 h]; exact spt1_any wd hg sv x h hrb gb T fr w hb0
  · rw [tlW_2 h]; exact spt2_any wd hg sv x h hrb gb T fr w hb0
  · rw [tlW_3 h]; exact spt3_any wd hg sv x h hrb gb T fr w hb0

set_option maxRecDepth 100000 in
set_option maxHeartbeats 1000000 in
theorem squares_any (a1 a2 b1 b2 : Int) (ha : 0 ≤ a1 ∧ a1 ≤ 9 ∧ 0 ≤ a2 ∧ a2 ≤ 9) (hb : 0 ≤ b1 ∧ b1 ≤ 9 ∧ 0 ≤ b2 ∧ b2 ≤ 9) (w : World) :
    Calls Tryz.prog 195 #[.agg (tileC a1 a2), .agg (tileC b1 b2)] w fun e w' => e = .returned (.int .i16 (sqT (a1, a2) (b1, b2))) ∧ Below w.heap.size w w' := by
  obtain ⟨a10, a11, a20, a21⟩ := ha
  obtain ⟨b10, b11, b20, b21⟩ := hb
  have p := sq_le (d := a1 - b1) (by omega) (by omega)
  have q := sq_le (d := a2 - b2) (by omega) (by omega)
  obtain ⟨p0', p1'⟩ := p
  obtain ⟨q0', q1'⟩ := q
  have u1 : IntKind.i16.wrap a1 = a1 := IntWalk.i16_in _ (by omega)
  have u2 : IntKind.i16.wrap a2 = a2 := IntWalk.i16_in _ (by omega)
  have u3 : IntKind.i16.wrap b1 = b1 := IntWalk.i16_in _ (by omega)
  have u4 : IntKind.i16.wrap b2 = b2 := IntWalk.i16_in _ (by omega)
  have u5 : IntKind.i16.wrap (a1 - b1) = a1 - b1 := IntWalk.i16_in _ (by omega)
  have u6 : IntKind.i16.wrap (a2 - b2) = a2 - b2 := IntWalk.i16_in _ (by omega)
  have HA := Lib.hid (two_at w (.cells (tileC a1 a2) 126) (.cells (tileC b1 b2) 126))
  go_enter Tryz.func195, Tryz.ntmps195
  go_wp2
  refine wp_region_held_drew (S := (fun W => W.heap[w.heap.size]? = some (.cells (tileC a1 a2) 126 (0, 0)) ∧ W.heap[w.heap.size + 1]? = some (.cells (tileC b1 b2) 126 (0, 0)) ∧ Below w.heap.size w W)) (by kernel_rfl) ⟨HA.out.1, HA.out.2.1, HA.out.2.2.drew⟩ (fun hHeld => ?_)
  refine take_op (i := 0) (d := 7) (v := ?_) rfl rfl (by kernel_rfl) (by kernel_rfl) (by kernel_rfl) (fun _ _ _ h => h) (Or.inl ⟨by rfl, ?hy0u1⟩) hHeld ?rest0u1
  case hy0u1 =>
    intro w' hS'
    go_simp
    try with_reducible rfl
  simp only [List.setIfInBounds_toArray, List.set_cons_zero, List.set_cons_succ]
  refine take_op (i := 1) (d := 8) (v := ?_) rfl rfl (by kernel_rfl) (by kernel_rfl) (by kernel_rfl) (fun _ _ _ h => h) (Or.inl ⟨by rfl, ?hy1u2⟩) hHeld ?rest1u2
  case hy1u2 =>
    intro w' hS'
    obtain ⟨s1, s2, _⟩ := hS'
    obtain ⟨k0, k1⟩ := tile_cells s1
    obtain ⟨p0, p1⟩ := tile_cells s2
    clear s1 s2
    go_simp
    try with_reducible rfl
  simp only [List.setIfInBounds_toArray, List.set_cons_zero, List.set_cons_succ]
  refine take_op (i := 2) (d := 9) (v := ?_) rfl rfl (by kernel_rfl) (by kernel_rfl) (by kernel_rfl) (fun _ _ _ h => h) (Or.inl ⟨by rfl, ?hy2u3⟩) hHeld ?rest2u3
  case hy2u3 =>
    intro w' hS'
    go_simp
    try with_reducible rfl
  simp only [List.setIfInBounds_toArray, List.set_cons_zero, List.set_cons_succ]
  refine take_op (i := 3) (d := 10) (v := ?_) rfl rfl (by kernel_rfl) (by kernel_rfl) (by kernel_rfl) (fun _ _ _ h => h) (Or.inl ⟨by rfl, ?hy3u4⟩) hHeld ?rest3u4
  case hy3u4 =>
    intro w' hS'
    go_simp
    try with_reducible rfl
  simp only [List.setIfInBounds_toArray, List.set_cons_zero, List.set_cons_succ]
  refine take_op (i := 4) (d := 11) (v := ?_) rfl rfl (by kernel_rfl) (by kernel_rfl) (by kernel_rfl) (fun _ _ _ h => h) (Or.inl ⟨by rfl, ?hy4u5⟩) hHeld ?rest4u5
  case hy4u5 =>
    intro w' hS'
    obtain ⟨s1, s2, _⟩ := hS'
    obtain ⟨k0, k1⟩ := tile_cells s1
    obtain ⟨p0, p1⟩ := tile_cells s2
    clear s1 s2
    go_simp
    try with_reducible rfl
  simp only [List.setIfInBounds_toArray, List.set_cons_zero, List.set_cons_succ]
  refine take_op (i := 5) (d := 12) (v := ?_) rfl rfl (by kernel_rfl) (by kernel_rfl) (by kernel_rfl) (fun _ _ _ h => h) (Or.inl ⟨by rfl, ?hy5u6⟩) hHeld ?rest5u6
  case hy5u6 =>
    intro w' hS'
    go_simp
    try with_reducible rfl
  simp only [List.setIfInBounds_toArray, List.set_cons_zero, List.set_cons_succ]
  refine take_op (i := 6) (d := 13) (v := ?_) rfl rfl (by kernel_rfl) (by kernel_rfl) (by kernel_rfl) (fun _ _ _ h => h) (Or.inl ⟨by rfl, ?hy6u7⟩) hHeld ?rest6u7
  case hy6u7 =>
    intro w' hS'
    go_simp
    try with_reducible rfl
  simp only [List.setIfInBounds_toArray, List.set_cons_zero, List.set_cons_succ]
  refine take_op (i := 7) (d := 14) (v := ?_) rfl rfl (by kernel_rfl) (by kernel_rfl) (by kernel_rfl) (fun _ _ _ h => h) (Or.inl ⟨by rfl, ?hy7u8⟩) hHeld ?rest7u8
  case hy7u8 =>
    intro w' hS'
    go_simp
    try with_reducible rfl
  simp only [List.setIfInBounds_toArray, List.set_cons_zero, List.set_cons_succ]
  refine take_op (i := 8) (d := 15) (v := ?_) rfl rfl (by kernel_rfl) (by kernel_rfl) (by kernel_rfl) (fun _ _ _ h => h) (Or.inl ⟨by rfl, ?hy8u9⟩) hHeld ?rest8u9
  case hy8u9 =>
    intro w' hS'
    obtain ⟨s1, s2, _⟩ := hS'
    obtain ⟨k0, k1⟩ := tile_cells s1
    obtain ⟨p0, p1⟩ := tile_cells s2
    clear s1 s2
    go_simp
    try with_reducible rfl
  simp only [List.setIfInBounds_toArray, List.set_cons_zero, List.set_cons_succ]
  refine take_op (i := 9) (d := 16) (v := ?_) rfl rfl (by kernel_rfl) (by kernel_rfl) (by kernel_rfl) (fun _ _ _ h => h) (Or.inl ⟨by rfl, ?hy9u10⟩) hHeld ?rest9u10
  case hy9u10 =>
    intro w' hS'
    go_simp
    try with_reducible rfl
  simp only [List.setIfInBounds_toArray, List.set_cons_zero, List.set_cons_succ]
  refine take_op (i := 10) (d := 17) (v := ?_) rfl rfl (by kernel_rfl) (by kernel_rfl) (by kernel_rfl) (fun _ _ _ h => h) (Or.inl ⟨by rfl, ?hy10u11⟩) hHeld ?rest10u11
  case hy10u11 =>
    intro w' hS'
    go_simp
    try with_reducible rfl
  simp only [List.setIfInBounds_toArray, List.set_cons_zero, List.set_cons_succ]
  refine take_op (i := 11) (d := 18) (v := ?_) rfl rfl (by kernel_rfl) (by kernel_rfl) (by kernel_rfl) (fun _ _ _ h => h) (Or.inl ⟨by rfl, ?hy11u12⟩) hHeld ?rest11u12
  case hy11u12 =>
    intro w' hS'
    obtain ⟨s1, s2, _⟩ := hS'
    obtain ⟨k0, k1⟩ := tile_cells s1
    obtain ⟨p0, p1⟩ := tile_cells s2
    clear s1 s2
    go_simp
    try with_reducible rfl
  simp only [List.setIfInBounds_toArray, List.set_cons_zero, List.set_cons_succ]
  refine take_op (i := 12) (d := 19) (v := ?_) rfl rfl (by kernel_rfl) (by kernel_rfl) (by kernel_rfl) (fun _ _ _ h => h) (Or.inl ⟨by rfl, ?hy12u13⟩) hHeld ?rest12u13
  case hy12u13 =>
    intro w' hS'
    go_simp
    try with_reducible rfl
  simp only [List.setIfInBounds_toArray, List.set_cons_zero, List.set_cons_succ]
  refine take_op (i := 13) (d := 20) (v := ?_) rfl rfl (by kernel_rfl) (by kernel_rfl) (by kernel_rfl) (fun _ _ _ h => h) (Or.inl ⟨by rfl, ?hy13u14⟩) hHeld ?rest13u14
  case hy13u14 =>
    intro w' hS'
    go_simp
    try with_reducible rfl
  simp only [List.setIfInBounds_toArray, List.set_cons_zero, List.set_cons_succ]
  refine take_op (i := 14) (d := 5) (v := ?_) rfl rfl (by kernel_rfl) (by kernel_rfl) (by kernel_rfl) (fun _ _ _ h => h) (Or.inl ⟨by rfl, ?hy14u15⟩) hHeld ?rest14u15
  case hy14u15 =>
    intro w' hS'
    go_simp
    try with_reducible rfl
  simp only [List.setIfInBounds_toArray, List.set_cons_zero, List.set_cons_succ]
  refine take_op (i := 15) (d := 6) (v := ?_) rfl rfl (by kernel_rfl) (by kernel_rfl) (by kernel_rfl) (fun _ _ _ h => h) (Or.inl ⟨by rfl, ?hy15u16⟩) hHeld ?rest15u16
  case hy15u16 =>
    intro w' hS'
    go_simp
    try with_reducible rfl
  simp only [List.setIfInBounds_toArray, List.set_cons_zero, List.set_cons_succ]
  refine wpAnyH_done (by kernel_rfl) ?_ _
  have hbz := hHeld.2.2
  clear hHeld u1 u2 u3 u4 u5 u6
  go_wp2
  go_ret
  exact ⟨rfl, hbz⟩

end Go.Proofs.YtpcmcopfdghdgaaGreatDoor

namespace Go.Proofs.YtpcmcopfdghdgaaGreatDoor
open Go.RowKit

attribute [local go_sem] run_store_f

theorem sq_turn (a b : Int) : (a - b) * (a - b) = (b - a) * (b - a) := by
  have e : b - a = -(a - b) := by omega
  rw [e, Int.neg_mul_neg]

set_option maxRecDepth 100000 in
set_option maxHeartbeats 1000000 in
theorem l03From_any (wd hg : Int) (sv : Value) (x : Wn) (hf : FitOk wd hg x) (hrb : RB wd hg) (a1 a2 : Int) (ha : inRoom wd hg (a1, a2)) (gb : Nat) (T : TypeId) (fr : Nat × Nat) (w : World) (hb0 : w.heap[gb]? = some (.cells (roomC wd hg sv) T fr)) :
    Calls Tryz.prog 178 #[.pointer (some ⟨gb, 0, none⟩), .agg (winC x), .agg (tileC a1 a2)] w fun e w' => e = .returned (.float .f32 (fromW wd hg (a1, a2) x)) ∧ Below w.heap.size w w' := by
  obtain ⟨w0, w1, h0, h1⟩ := hrb
  obtain ⟨f1, _⟩ := from_facts w0 w1 h0 h1 ha hf
  have hin := tlW_in w0 h0 hf
  have HT := Lib.hid (fun (W : World) hW => l03Tile_any wd hg sv x hf ⟨w0, w1, h0, h1⟩ gb T fr W hW)
  obtain ⟨t1, t2, htl⟩ : ∃ t1 t2, tlW wd hg x = (t1, t2) := ⟨_, _, rfl⟩
  unfold Hid at HT
  rw [htl] at f1 hin HT
  dsimp only at HT
  have HT2 := Lib.hid HT
  obtain ⟨p1, p2, p3, p4⟩ := hin
  obtain ⟨q1, q2, q3, q4⟩ := ha
  dsimp only at p1 p2 p3 p4 q1 q2 q3 q4
  have s1 := sq_le (d := t1 - a1) (by omega) (by omega)
  have s2 := sq_le (d := t2 - a2) (by omega) (by omega)
  obtain ⟨s10, s11⟩ := s1
  obtain ⟨s20, s21⟩ := s2
  have e : 1 + sqT (a1, a2) (t1, t2) = 1 + (t1 - a1) * (t1 - a1) + (t2 - a2) * (t2 - a2) := by
    show 1 + ((a1 - t1) * (a1 - t1) + (a2 - t2) * (a2 - t2)) = _
    rw [sq_turn a1 t1, sq_turn a2 t2]; omega
  rw [e] at f1
  have rq : ∀ T w, (binOp .quo T (.float .f32 x.2.2) (.float .f32 (floatOfInt .f32 (1 + (t1 - a1) * (t1 - a1) + (t2 - a2) * (t2 - a2))))).run Tryz.prog w = .ok (.float .f32 (fromW wd hg (a1, a2) x)) w := fun T w => run_float_arith w .quo T .f32 _ _ _ f1
  have H0 := Lib.hid hb0
  clear hb0 f1 HT htl e hf
  go_enter Tryz.func178, Tryz.ntmps178
  go_upto_region 1 with (fail)
  refine abs_world (fun W => W.heap[w.heap.size]? = some (.cells (winC x) 174 (0, 0)) ∧ W.heap[w.heap.size + 1]? = some (.cells (tileC a1 a2) 126 (0, 0)) ∧ Below w.heap.size w W) (two_at w (.cells (winC x) 174) (.cells (tileC a1 a2) 126)) ?_
  rintro W ⟨g0, g1, hb⟩
  replace H0 := Lib.hid (below_row hb H0.out)
  have H1 := Lib.hid g0
  have H2 := Lib.hid g1
  clear g0 g1
  go_upto_region 2 with (first | (refine wpList_load_part rfl 174 _ rfl w.heap.size 0 3 rfl 174 (winC x) (0, 0) _ H1.out Tryz.underlying174 rfl info_win (win_fits _) _ (win_all _) ?_) | (go_at_call 193; refine (HT2.out _ H0.out).mono ?_; rintro e W5 ⟨rfl, hb5⟩) | (refine wpList_store_part rfl 126 _ _ rfl _ 0 (tileC t1 t2) rfl rfl 126 _ (heap_alloc_new _ _) (by kernel_rfl) (Nat.le_refl _) (tile_one _ _) ?_; rw [laid_allr _ _ (by rfl)]))
  refine abs_world (fun V => Below W5.heap.size W5 V ∧ V.heap[W5.heap.size]? = some (.cells (tileC t1 t2) 126 (0, 0))) ⟨below_setRow ((Below.refl _ _).alloc (Nat.le_refl _) _) (Nat.le_refl _) _, setRow_heap _ _ _ _ _ _ (heap_alloc_new _ _)⟩ ?_
  rintro V ⟨hb6, h3⟩
  obtain ⟨k0, k1, k2⟩ := win_cells (below_row hb6 (below_row hb5 H1.out))
  obtain ⟨c0, c1⟩ := tile_cells (below_row hb6 (below_row hb5 H2.out))
  obtain ⟨d0, d1⟩ := tile_cells h3
  replace hb := (hb.trans (hb5.mono hb.size)).trans (hb6.mono (hb.trans (hb5.mono hb.size)).size)
  clear hb5 hb6 h3 H0 H1 H2
  generalize W5.heap.size = tb at *
  go_wp2
  go_ret
  exact ⟨rfl, hb⟩

set_option maxRecDepth 100000 in
set_option maxHeartbeats 1000000 in
theorem l03Light_any (wd hg : Int) (sv : Value) (ws : List Wn) (ok : RmOk wd hg ws) (hwf : ∀ x ∈ ws, WnWf x) (a1 a2 : Int) (ha : inRoom wd hg (a1, a2)) (gb : Nat) (T : TypeId) (fr : Nat × Nat) (w : World) (hb0 : w.heap[gb]? = some (.cells (roomC wd hg sv) T fr)) (hws : WinsAt w sv ws) :
    Calls Tryz.prog 153 #[.pointer (some ⟨gb, 0, none⟩), .agg (tileC a1 a2)] w fun e w' => e = .returned (.float .f32 (litW wd hg (a1, a2) (fun _ => true) ws)) ∧ Below w.heap.size w w' := by
  have HW := Lib.hid hws
  have HOk := Lib.hid ok
  have HF := Lib.hid hwf
  have HAt := Lib.hid ha
  have H0 := Lib.hid hb0
  obtain ⟨a, cap, rfl, hl1, hl2, _⟩ := hws
  unfold maxLen at hl2
  generalize hn : ws.length = n at *
  have HN := Lib.hid hn
  have HRB := Lib.hid (show RB wd hg from ⟨ok.w0, ok.w1, ok.h0, ok.h1⟩)
  clear hn hwf ha ok hb0
  go_enter Tryz.func153, Tryz.ntmps153
  go_upto_region 1 with (fail)
  refine abs_world (fun W => Below w.heap.size w W ∧ W.heap[w.heap.size]? = some (.cells (tileC a1 a2) 126 (0, 0))) ⟨(Below.refl _ _).alloc (Nat.le_refl _) _, heap_alloc_new _ _⟩ ?_
  rintro W ⟨hb, h1⟩
  replace H0 := Lib.hid (below_row hb H0.out)
  have H1 := Lib.hid h1
  clear h1
  go_wp2
  go_loopw [5, 6] (fun q i wr => ∃ k : Nat, k ≤ n ∧ i = .int .i64 k ∧ q = .float .f32 (sumL (qsW wd hg (a1, a2) (fun _ => true) (ws.take k))) ∧ Below w.heap.size w wr ∧ wr.heap[gb]? = some (.cells (roomC wd hg (.slice a n cap)) T fr) ∧ wr.heap[w.heap.size]? = some (.cells (tileC a1 a2) 126 (0, 0))) (fun _ i _ => n - (intOf i).toNat)
  case atStart => exact ⟨0, Nat.zero_le _, rfl, rfl, hb, H0.out, H1.out⟩
  case round =>
    clear H0 H1 hb
    obtain ⟨k, hk, rfl, rfl, hb, h0, h1⟩ := hrel
    have H0 := Lib.hid h0
    have H1 := Lib.hid h1
    obtain ⟨r0, r1, r2⟩ := room_cells h0
    clear h0 h1
    by_cases hlt : k < n
    · have hx : ws[k]? = some (ws[k]'(by rw [HN.out]; exact hlt)) := List.getElem?_eq_getElem _
      obtain ⟨g, o, rfl, hc⟩ := win_at (wins_below HW.out hb) hx
      have HCl := Lib.hid hc
      have hts : ws.take (k + 1) = ws.take k ++ [ws[k]'(by rw [HN.out]; exact hlt)] := by rw [List.take_succ_eq_append_getElem]
      have hmem := List.mem_of_getElem? hx
      generalize (ws[k]'(by rw [HN.out]; exact hlt)) = x at *
      have hfx : FitOk wd hg x := fit_get (HF.out x hmem) (HOk.out.all x hmem)
      have HT := Lib.hid hts
      obtain ⟨_, f2⟩ := from_facts HOk.out.w0 HOk.out.w1 HOk.out.h0 HOk.out.h1 HAt.out hfx
      have hqs : ∀ q ∈ qsW wd hg (a1, a2) (fun _ => true) (ws.take k), PartOk q := qsW_ok HOk.out.w0 HOk.out.w1 HOk.out.h0 HOk.out.h1 HAt.out (fun y hy => fit_get (HF.out y (List.mem_of_mem_take hy)) (HOk.out.all y (List.mem_of_mem_take hy)))
      have hql : (qsW wd hg (a1, a2) (fun _ => true) (ws.take k)).length ≤ 12 := Nat.le_trans (qsW_len _ _ _ _ _) (Nat.le_trans (List.length_take_le _ _) (by have := HOk.out.len; have := HN.out; omega))
      have f3 := sumL_step hqs f2 hql
      have HQ : Hid (qsW wd hg (a1, a2) (fun _ => true) (ws.take (k + 1)) = qsW wd hg (a1, a2) (fun _ => true) (ws.take k) ++ [fromW wd hg (a1, a2) x]) := Lib.hid (by rw [HT.out]; exact qsW_hit _ _ _ _ _ _ rfl)
      have HFr := Lib.hid (fun (V : World) hV => l03From_any wd hg (.slice (some ⟨g, o, none⟩) n cap) x hfx HRB.out a1 a2 HAt.out gb T fr V hV)
      have z1 : (k : Int) < (n : Int) := by omega
      have z2 : (0 : Int) ≤ (k : Int) := by omega
      have z3 : decide ((k : Int) < (n : Int)) = true := decide_eq_true z1
      have ra : ∀ T w, (binOp .add T (.float .f32 (sumL (qsW wd hg (a1, a2) (fun _ => true) (ws.take k)))) (.float .f32 (fromW wd hg (a1, a2) x))).run Tryz.prog w = .ok (.float .f32 (sumL (qsW wd hg (a1, a2) (fun _ => true) (ws.take k) ++ [fromW wd hg (a1, a2) x]))) w := fun T w => run_float_arith w .add T .f32 _ _ _ f3
      clear hc hx hts hmem hfx f2 f3 hqs hql
      go_wp2
      refine wp_region_held_drew (S := (fun W => W.heap[gb]? = some (.cells (roomC wd hg (.slice (some ⟨g, o, none⟩) n cap)) T fr) ∧ W.heap[w.heap.size]? = some (.cells (tileC a1 a2) 126 (0, 0)) ∧ (∀ j v, (winC x)[j]? = some v → W.cell? ⟨g, o + k * 3 + j, none⟩ = some v) ∧ Below w.heap.size w W)) (by kernel_rfl) ⟨H0.out, H1.out, HCl.out, hb.drew⟩ (fun hHeld => ?_)
      refine take_op (i := 0) (d := 16) (v := ?_) rfl rfl (by kernel_rfl) (by kernel_rfl) (by kernel_rfl) (fun _ _ _ h => h) (Or.inl ⟨by rfl, ?hy0u1⟩) hHeld ?rest0u1
      case hy0u1 =>
        intro w' hS'
        go_simp
        try with_reducible rfl
      simp only [List.setIfInBounds_toArray, List.set_cons_zero, List.set_cons_succ]
      refine take_op (i := 1) (d := 17) (v := ?_) rfl rfl (by kernel_rfl) (by kernel_rfl) (by kernel_rfl) (fun _ _ _ h => h) (Or.inl ⟨by rfl, ?hy1u2⟩) hHeld ?rest1u2
      case hy1u2 =>
        intro w' hS'
        go_simp
        try with_reducible rfl
      simp only [List.setIfInBounds_toArray, List.set_cons_zero, List.set_cons_succ]
      refine take_op (i := 2) (d := 18) (v := ?_) rfl rfl (by kernel_rfl) (by kernel_rfl) (by kernel_rfl) (fun _ _ _ h => h) (Or.inl ⟨by rfl, ?hy2u3⟩) hHeld ?rest2u3
      case hy2u3 =>
        intro w' hS'
        go_simp
        try with_reducible rfl
      simp only [List.setIfInBounds_toArray, List.set_cons_zero, List.set_cons_succ]
      refine take_op (i := 3) (d := 19) (v := ?_) rfl rfl (by kernel_rfl) (by kernel_rfl) (by kernel_rfl) (fun _ _ _ h => h) (Or.inl ⟨by rfl, ?hy3u4⟩) hHeld ?rest3u4
      case hy3u4 =>
        intro w' hS'
        go_simp
        try with_reducible rfl
      simp only [List.setIfInBounds_toArray, List.set_cons_zero, List.set_cons_succ]
      refine take_op (i := 4) (d := 20) (v := ?_) rfl rfl (by kernel_rfl) (by kernel_rfl) (by kernel_rfl) (fun _ _ _ h => h) (Or.inl ⟨by rfl, ?hy4u5⟩) hHeld ?rest4u5
      case hy4u5 =>
        intro w' hS'
        go_simp
        try with_reducible rfl
      simp only [List.setIfInBounds_toArray, List.set_cons_zero, List.set_cons_succ]
      refine take_op (i := 5) (d := 21) (v := ?_) rfl rfl (by kernel_rfl) (by kernel_rfl) (by kernel_rfl) (fun _ _ _ h => h) (Or.inl ⟨by rfl, ?hy5u6⟩) hHeld ?rest5u6
      case hy5u6 =>
        intro w' hS'
        obtain ⟨s1, _⟩ := hS'
        obtain ⟨r0, r1, r2⟩ := room_cells s1
        clear s1
        go_simp
        try with_reducible rfl
      simp only [List.setIfInBounds_toArray, List.set_cons_zero, List.set_cons_succ]
      refine take_op (i := 6) (d := 22) (v := ?_) rfl rfl (by kernel_rfl) (by kernel_rfl) (by kernel_rfl) (fun _ _ _ h => h) (Or.inl ⟨by rfl, ?hy6u7⟩) hHeld ?rest6u7
      case hy6u7 =>
        intro w' hS'
        go_simp
        try with_reducible rfl
      simp only [List.setIfInBounds_toArray, List.set_cons_zero, List.set_cons_succ]
      refine take_op (i := 7) (d := 23) (v := ?_) rfl rfl (by kernel_rfl) (by kernel_rfl) (by kernel_rfl) (fun _ _ _ h => h) (Or.inl ⟨by rfl, ?hy7u8⟩) hHeld ?rest7u8
      case hy7u8 =>
        intro w' hS'
        go_simp
        try with_reducible rfl
      simp only [List.setIfInBounds_toArray, List.set_cons_zero, List.set_cons_succ]
      refine take_op (i := 8) (d := 24) (v := .agg (winC x)) rfl rfl (by kernel_rfl) (by kernel_rfl) (by kernel_rfl) (fun _ _ _ h => h) (yields_cells (by rfl) 174 (.tmp 23) (by rfl) g (o + k * 3) 3 (by rfl) _ Tryz.underlying174 rfl info_win (winC x) rfl (fun W h => h.2.2.1)) hHeld ?_
      simp only [List.setIfInBounds_toArray, List.set_cons_zero, List.set_cons_succ]
      refine take_op (i := 9) (d := 25) (v := .agg (tileC a1 a2)) rfl rfl (by kernel_rfl) (by kernel_rfl) (by kernel_rfl) (fun _ _ _ h => h) (yields_row (by rfl) 126 (.tmp 3) (by rfl) w.heap.size 0 2 (by rfl) 126 (tileC a1 a2) (0, 0) _ (fun _ h => h.2.1) Tryz.underlying126 rfl info_tile (tile_fits _ _) (tileC a1 a2) (tile_all _ _)) hHeld ?_
      simp only [List.setIfInBounds_toArray, List.set_cons_zero, List.set_cons_succ]
      refine wpAnyH_ready (rs := [10]) (by kernel_rfl) (by simp) ?_
      refine AllReadyH.cons rfl (fun K hK => ?_) AllReadyH.nil
      go_simp
      refine (HFr.out _ hHeld.1).mono ?_
      rintro e W1 ⟨rfl, hb1⟩
      refine hK.out _ _ (⟨below_row hb1 hHeld.1, below_row hb1 hHeld.2.1, fun j v h => cell_below hb1 (hHeld.2.2.1 j v h), hHeld.2.2.2.trans (hb1.mono hHeld.2.2.2.size)⟩) (fun hHeld2 => ?_)
      clear hK K
      replace hHeld := hHeld2
      clear hHeld2
      refine take_op (i := 11) (d := 27) (v := ?_) rfl rfl (by kernel_rfl) (by kernel_rfl) (by kernel_rfl) (fun _ _ _ h => h) (Or.inl ⟨by rfl, ?hy11u9⟩) hHeld ?rest11u9
      case hy11u9 =>
        intro w' hS'
        go_simp
        try with_reducible rfl
      simp only [List.setIfInBounds_toArray, List.set_cons_zero, List.set_cons_succ]
      refine take_op (i := 12) (d := 5) (v := ?_) rfl rfl (by kernel_rfl) (by kernel_rfl) (by kernel_rfl) (fun _ _ _ h => h) (Or.inl ⟨by rfl, ?hy12u10⟩) hHeld ?rest12u10
      case hy12u10 =>
        intro w' hS'
        go_simp
        try with_reducible rfl
      simp only [List.setIfInBounds_toArray, List.set_cons_zero, List.set_cons_succ]
      refine wpAnyH_done (by kernel_rfl) ?_ _
      have HH := Lib.hid hHeld
      clear hHeld ra hb H0 H1 r0 r1 r2
      go_wp2
      go_roundw
      case rel => exact ⟨k + 1, by omega, by go_num, by rw [HQ.out], HH.out.2.2.2, HH.out.1, HH.out.2.1⟩
      case measure => simp [intOf]; omega
    · obtain rfl : k = n := by omega
      have HL : Hid (ws.take k = ws) := Lib.hid (List.take_of_length_le (by rw [HN.out]; exact Nat.le_refl _))
      go_wp2
      go_ret
      refine ⟨?_, hb⟩
      rw [litW, HL.out]; rfl

end Go.Proofs.YtpcmcopfdghdgaaGreatDoor

namespace Go.Proofs.YtpcmcopfdghdgaaGreatDoor
open Go.RowKit

attribute [local go_sem] run_store_f

/-- There is such a tile. -/
def isT (wd hg x y : Int) : Bool := inI 0 (wd - 1) x && inI 0 (hg - 1) y
theorem isT_get {wd hg x y : Int} (h : isT wd hg x y = true) : 0 ≤ x ∧ x < wd ∧ 0 ≤ y ∧ y < hg := by
  simp only [isT, Bool.and_eq_true] at h
  have a := inI_get h.1
  have b := inI_get h.2
  omega
theorem isT_bad {wd hg x y : Int} (h : ¬ (0 ≤ x ∧ x < wd ∧ 0 ≤ y ∧ y < hg)) : isT wd hg x y = false := by
  rw [Bool.eq_false_iff]
  intro k
  exact h (isT_get k)

set_option maxRecDepth 100000 in
set_option maxHeartbeats 1000000 in
theorem isTile_0 (wd hg x y : Int) (sv : Value) (hx : x < 0) (w : World) :
    Calls Tryz.prog 184 #[.agg (roomC wd hg sv), .agg (tileC x y)] w fun e w' => e = .returned (.bool false) ∧ Below w.heap.size w w' := by
  have d0 : decide (0 ≤ x) = false := by simp; omega
  unfold roomC tileC
  go_enter Tryz.func184, Tryz.ntmps184
  go_wp2
  go_ret
  exact ⟨rfl, by repeat' first | exact Below.refl _ _ | assumption | refine Below.alloc ?_ (by first | omega | (simp; done) | (simp; omega)) _ | refine Below.setCell ?_ (by first | omega | (simp; done) | (simp; omega)) _ | refine Below.drew ?_⟩

set_option maxRecDepth 100000 in
set_option maxHeartbeats 1000000 in
theorem isTile_1 (wd hg x y : Int) (sv : Value) (c0 : 0 ≤ x) (hx : wd ≤ x) (w : World) :
    Calls Tryz.prog 184 #[.agg (roomC wd hg sv), .agg (tileC x y)] w fun e w' => e = .returned (.bool false) ∧ Below w.heap.size w w' := by
  have d0 : decide (0 ≤ x) = true := by simp; omega
  have d1 : decide (x < wd) = false := by simp; omega
  unfold roomC tileC
  go_enter Tryz.func184, Tryz.ntmps184
  go_wp2
  go_ret
  exact ⟨rfl, by repeat' first | exact Below.refl _ _ | assumption | refine Below.alloc ?_ (by first | omega | (simp; done) | (simp; omega)) _ | refine Below.setCell ?_ (by first | omega | (simp; done) | (simp; omega)) _ | refine Below.drew ?_⟩

set_option maxRecDepth 100000 in
set_option maxHeartbeats 1000000 in
theorem isTile_2 (wd hg x y : Int) (sv : Value) (c0 : 0 ≤ x) (c1 : x < wd) (hx : y < 0) (w : World) :
    Calls Tryz.prog 184 #[.agg (roomC wd hg sv), .agg (tileC x y)] w fun e w' => e = .returned (.bool false) ∧ Below w.heap.size w w' := by
  have d0 : decide (0 ≤ x) = true := by simp; omega
  have d1 : decide (x < wd) = true := by simp; omega
  have d2 : decide (0 ≤ y) = false := by simp; omega
  unfold roomC tileC
  go_enter Tryz.func184, Tryz.ntmps184
  go_wp2
  go_ret
  exact ⟨rfl, by repeat' first | exact Below.refl _ _ | assumption | refine Below.alloc ?_ (by first | omega | (simp; done) | (simp; omega)) _ | refine Below.setCell ?_ (by first | omega | (simp; done) | (simp; omega)) _ | refine Below.drew ?_⟩

set_option maxRecDepth 100000 in
set_option maxHeartbeats 1000000 in
theorem isTile_3 (wd hg x y : Int) (sv : Value) (c0 : 0 ≤ x) (c1 : x < wd) (c2 : 0 ≤ y) (hx : hg ≤ y) (w : World) :
    Calls Tryz.prog 184 #[.agg (roomC wd hg sv), .agg (tileC x y)] w fun e w' => e = .returned (.bool false) ∧ Below w.heap.size w w' := by
  have d0 : decide (0 ≤ x) = true := by simp; omega
  have d1 : decide (x < wd) = true := by simp; omega
  have d2 : decide (0 ≤ y) = true := by simp; omega
  have d3 : decide (y < hg) = false := by simp; omega
  unfold roomC tileC
  go_enter Tryz.func184, Tryz.ntmps184
  go_wp2
  go_ret
  exact ⟨rfl, by repeat' first | exact Below.refl _ _ | assumption | refine Below.alloc ?_ (by first | omega | (simp; done) | (simp; omega)) _ | refine Below.setCell ?_ (by first | omega | (simp; done) | (simp; omega)) _ | refine Below.drew ?_⟩

set_option maxRecDepth 100000 in
set_option maxHeartbeats 1000000 in
theorem isTile_4 (wd hg x y : Int) (sv : Value) (c0 : 0 ≤ x) (c1 : x < wd) (c2 : 0 ≤ y) (c3 : y < hg) (w : World) :
    Calls Tryz.prog 184 #[.agg (roomC wd hg sv), .agg (tileC x y)] w fun e w' => e = .returned (.bool true) ∧ Below w.heap.size w w' := by
  have d0 : decide (0 ≤ x) = true := by simp; omega
  have d1 : decide (x < wd) = true := by simp; omega
  have d2 : decide (0 ≤ y) = true := by simp; omega
  have d3 : decide (y < hg) = true := by simp; omega
  unfold roomC tileC
  go_enter Tryz.func184, Tryz.ntmps184
  go_wp2
  go_ret
  exact ⟨rfl, by repeat' first | exact Below.refl _ _ | assumption | refine Below.alloc ?_ (by first | omega | (simp; done) | (simp; omega)) _ | refine Below.setCell ?_ (by first | omega | (simp; done) | (simp; omega)) _ | refine Below.drew ?_⟩

theorem isTile_any (wd hg x y : Int) (sv : Value) (w : World) :
    Calls Tryz.prog 184 #[.agg (roomC wd hg sv), .agg (tileC x y)] w fun e w' => e = .returned (.bool (isT wd hg x y)) ∧ Below w.heap.size w w' := by
  by_cases c0 : 0 ≤ x
  · by_cases c1 : x < wd
    · by_cases c2 : 0 ≤ y
      · by_cases c3 : y < hg
        · have e : isT wd hg x y = true := by simp [isT, inI]; omega
          rw [e]; exact isTile_4 wd hg x y sv c0 c1 c2 c3 w
        · rw [isT_bad (by omega)]; exact isTile_3 wd hg x y sv c0 c1 c2 (by omega) w
      · rw [isT_bad (by omega)]; exact isTile_2 wd hg x y sv c0 c1 (by omega) w
    · rw [isT_bad (by omega)]; exact isTile_1 wd hg x y sv c0 (by omega) w
  · rw [isT_bad (by omega)]; exact isTile_0 wd hg x y sv (by omega) w

theorem l00In_is (a lo hi : Int) (r : Bool) (h : inI lo hi a = r) (w : World) : Calls Tryz.prog 72 #[.int .i64 a, .int .i64 lo, .int .i64 hi] w fun e w' => e = .returned (.bool r) ∧ w = w' := by subst h; exact l00In_ban a lo hi w

set_option maxRecDepth 100000 in
set_option maxHeartbeats 1000000 in
theorem l03Is_A (wd hg x y : Int) (iw : I8 wd) (ih : I8 hg) (ix : I8 x) (iy : I8 y) (he : inI 0 (wd - 1) x = false) (sv : Value) (gb : Nat) (T : TypeId) (fr : Nat × Nat) (w : World) (hb0 : w.heap[gb]? = some (.cells (roomC wd hg sv) T fr)) :
    Calls Tryz.prog 175 #[.pointer (some ⟨gb, 0, none⟩), .agg (tileC x y)] w fun e w' => e = .returned (.bool (false)) ∧ Below w.heap.size w w' := by
  obtain ⟨iw0, iw1⟩ := iw
  obtain ⟨ih0, ih1⟩ := ih
  obtain ⟨ix0, ix1⟩ := ix
  obtain ⟨iy0, iy1⟩ := iy
  have HE := Lib.hid he
  have H0 := Lib.hid hb0
  clear he hb0
  have u1 : IntKind.i64.wrap x = x := IntWalk.i64_in _ (by omega)
  have u2 : IntKind.i64.wrap y = y := IntWalk.i64_in _ (by omega)
  have u3 : IntKind.i64.wrap wd = wd := IntWalk.i64_in _ (by omega)
  have u4 : IntKind.i64.wrap hg = hg := IntWalk.i64_in _ (by omega)
  have u5 : IntKind.i64.wrap (wd - 1) = wd - 1 := IntWalk.i64_in _ (by omega)
  have u6 : IntKind.i64.wrap (hg - 1) = hg - 1 := IntWalk.i64_in _ (by omega)
  go_enter Tryz.func175, Tryz.ntmps175
  go_upto_region 1 with (fail)
  refine abs_world (fun W => Below w.heap.size w W ∧ W.heap[w.heap.size]? = some (.cells (tileC x y) 126 (0, 0))) ⟨(Below.refl _ _).alloc (Nat.le_refl _) _, heap_alloc_new _ _⟩ ?_
  rintro W ⟨hb, h1⟩
  replace H0 := Lib.hid (below_row hb H0.out)
  have HT := Lib.hid h1
  clear h1
  refine wp_region_held_drew (S := (fun W => W.heap[gb]? = some (.cells (roomC wd hg sv) T fr) ∧ W.heap[w.heap.size]? = some (.cells (tileC x y) 126 (0, 0)) ∧ Below w.heap.size w W)) (by kernel_rfl) ⟨H0.out, HT.out, hb.drew⟩ (fun hHeld => ?_)
  refine take_op (i := 0) (d := 5) (v := ?_) rfl rfl (by kernel_rfl) (by kernel_rfl) (by kernel_rfl) (fun _ _ _ h => h) (Or.inl ⟨by rfl, ?hy0u1⟩) hHeld ?rest0u1
  case hy0u1 =>
    intro w' hS'
    go_simp
    try with_reducible rfl
  simp only [List.setIfInBounds_toArray, List.set_cons_zero, List.set_cons_succ]
  refine take_op (i := 1) (d := 6) (v := ?_) rfl rfl (by kernel_rfl) (by kernel_rfl) (by kernel_rfl) (fun _ _ _ h => h) (Or.inl ⟨by rfl, ?hy1u2⟩) hHeld ?rest1u2
  case hy1u2 =>
    intro w' hS'
    obtain ⟨s1, s2, _⟩ := hS'
    obtain ⟨r0, r1, r2⟩ := room_cells s1
    obtain ⟨k0, k1⟩ := tile_cells s2
    clear s1 s2
    go_simp
    try with_reducible rfl
  simp only [List.setIfInBounds_toArray, List.set_cons_zero, List.set_cons_succ]
  refine take_op (i := 2) (d := 7) (v := ?_) rfl rfl (by kernel_rfl) (by kernel_rfl) (by kernel_rfl) (fun _ _ _ h => h) (Or.inl ⟨by rfl, ?hy2u3⟩) hHeld ?rest2u3
  case hy2u3 =>
    intro w' hS'
    go_simp
    try with_reducible rfl
  simp only [List.setIfInBounds_toArray, List.set_cons_zero, List.set_cons_succ]
  refine take_op (i := 3) (d := 8) (v := ?_) rfl rfl (by kernel_rfl) (by kernel_rfl) (by kernel_rfl) (fun _ _ _ h => h) (Or.inl ⟨by rfl, ?hy3u4⟩) hHeld ?rest3u4
  case hy3u4 =>
    intro w' hS'
    go_simp
    try with_reducible rfl
  simp only [List.setIfInBounds_toArray, List.set_cons_zero, List.set_cons_succ]
  refine take_op (i := 4) (d := 9) (v := ?_) rfl rfl (by kernel_rfl) (by kernel_rfl) (by kernel_rfl) (fun _ _ _ h => h) (Or.inl ⟨by rfl, ?hy4u5⟩) hHeld ?rest4u5
  case hy4u5 =>
    intro w' hS'
    go_simp
    try with_reducible rfl
  simp only [List.setIfInBounds_toArray, List.set_cons_zero, List.set_cons_succ]
  refine take_op (i := 5) (d := 10) (v := ?_) rfl rfl (by kernel_rfl) (by kernel_rfl) (by kernel_rfl) (fun _ _ _ h => h) (Or.inl ⟨by rfl, ?hy5u6⟩) hHeld ?rest5u6
  case hy5u6 =>
    intro w' hS'
    go_simp
    try with_reducible rfl
  simp only [List.setIfInBounds_toArray, List.set_cons_zero, List.set_cons_succ]
  refine take_op (i := 6) (d := 11) (v := ?_) rfl rfl (by kernel_rfl) (by kernel_rfl) (by kernel_rfl) (fun _ _ _ h => h) (Or.inl ⟨by rfl, ?hy6u7⟩) hHeld ?rest6u7
  case hy6u7 =>
    intro w' hS'
    obtain ⟨s1, s2, _⟩ := hS'
    obtain ⟨r0, r1, r2⟩ := room_cells s1
    obtain ⟨k0, k1⟩ := tile_cells s2
    clear s1 s2
    go_simp
    try with_reducible rfl
  simp only [List.setIfInBounds_toArray, List.set_cons_zero, List.set_cons_succ]
  refine take_op (i := 7) (d := 12) (v := ?_) rfl rfl (by kernel_rfl) (by kernel_rfl) (by kernel_rfl) (fun _ _ _ h => h) (Or.inl ⟨by rfl, ?hy7u8⟩) hHeld ?rest7u8
  case hy7u8 =>
    intro w' hS'
    go_simp
    try with_reducible rfl
  simp only [List.setIfInBounds_toArray, List.set_cons_zero, List.set_cons_succ]
  refine take_op (i := 8) (d := 13) (v := ?_) rfl rfl (by kernel_rfl) (by kernel_rfl) (by kernel_rfl) (fun _ _ _ h => h) (Or.inl ⟨by rfl, ?hy8u9⟩) hHeld ?rest8u9
  case hy8u9 =>
    intro w' hS'
    go_simp
    try with_reducible rfl
  simp only [List.setIfInBounds_toArray, List.set_cons_zero, List.set_cons_succ]
  refine wpAnyH_ready (rs := [9]) (by kernel_rfl) (by simp) ?_
  refine AllReadyH.cons rfl (fun K hK => ?_) AllReadyH.nil
  go_simp
  refine (l00In_is x 0 (wd - 1) _ HE.out _).mono ?_
  rintro e w' ⟨rfl, rfl⟩
  refine hK.out _ _ (hHeld) (fun hHeld2 => ?_)
  clear hK K
  replace hHeld := hHeld2
  clear hHeld2
  refine take_op (i := 10) (d := 15) (v := ?_) rfl rfl (by kernel_rfl) (by kernel_rfl) (by kernel_rfl) (fun _ _ _ h => h) (Or.inl ⟨by rfl, ?hy10u10⟩) hHeld ?rest10u10
  case hy10u10 =>
    intro w' hS'
    go_simp
    try with_reducible rfl
  simp only [List.setIfInBounds_toArray, List.set_cons_zero, List.set_cons_succ]
  refine take_op (i := 11) (d := 16) rfl rfl (by kernel_rfl) (by kernel_rfl) (by kernel_rfl) (fun _ _ _ h => h) (Or.inr ⟨by rfl, rfl⟩) hHeld ?_
  simp only [List.setIfInBounds_toArray, List.set_cons_zero, List.set_cons_succ]
  refine take_op (i := 12) (d := 17) rfl rfl (by kernel_rfl) (by kernel_rfl) (by kernel_rfl) (fun _ _ _ h => h) (Or.inr ⟨by rfl, rfl⟩) hHeld ?_
  simp only [List.setIfInBounds_toArray, List.set_cons_zero, List.set_cons_succ]
  refine take_op (i := 13) (d := 18) rfl rfl (by kernel_rfl) (by kernel_rfl) (by kernel_rfl) (fun _ _ _ h => h) (Or.inr ⟨by rfl, rfl⟩) hHeld ?_
  simp only [List.setIfInBounds_toArray, List.set_cons_zero, List.set_cons_succ]
  refine take_op (i := 14) (d := 19) rfl rfl (by kernel_rfl) (by kernel_rfl) (by kernel_rfl) (fun _ _ _ h => h) (Or.inr ⟨by rfl, rfl⟩) hHeld ?_
  simp only [List.setIfInBounds_toArray, List.set_cons_zero, List.set_cons_succ]
  refine take_op (i := 15) (d := 20) rfl rfl (by kernel_rfl) (by kernel_rfl) (by kernel_rfl) (fun _ _ _ h => h) (Or.inr ⟨by rfl, rfl⟩) hHeld ?_
  simp only [List.setIfInBounds_toArray, List.set_cons_zero, List.set_cons_succ]
  refine take_op (i := 16) (d := 21) rfl rfl (by kernel_rfl) (by kernel_rfl) (by kernel_rfl) (fun _ _ _ h => h) (Or.inr ⟨by rfl, rfl⟩) hHeld ?_
  simp only [List.setIfInBounds_toArray, List.set_cons_zero, List.set_cons_succ]
  refine take_op (i := 17) (d := 22) rfl rfl (by kernel_rfl) (by kernel_rfl) (by kernel_rfl) (fun _ _ _ h => h) (Or.inr ⟨by rfl, rfl⟩) hHeld ?_
  simp only [List.setIfInBounds_toArray, List.set_cons_zero, List.set_cons_succ]
  refine take_op (i := 18) (d := 23) rfl rfl (by kernel_rfl) (by kernel_rfl) (by kernel_rfl) (fun _ _ _ h => h) (Or.inr ⟨by rfl, rfl⟩) hHeld ?_
  simp only [List.setIfInBounds_toArray, List.set_cons_zero, List.set_cons_succ]
  refine take_op (i := 19) (d := 24) rfl rfl (by kernel_rfl) (by kernel_rfl) (by kernel_rfl) (fun _ _ _ h => h) (Or.inr ⟨by rfl, rfl⟩) hHeld ?_
  simp only [List.setIfInBounds_toArray, List.set_cons_zero, List.set_cons_succ]
  refine take_op (i := 20) (d := 25) rfl rfl (by kernel_rfl) (by kernel_rfl) (by kernel_rfl) (fun _ _ _ h => h) (Or.inr ⟨by rfl, rfl⟩) hHeld ?_
  simp only [List.setIfInBounds_toArray, List.set_cons_zero, List.set_cons_succ]
  refine take_op (i := 21) (d := 26) (v := ?_) rfl rfl (by kernel_rfl) (by kernel_rfl) (by kernel_rfl) (fun _ _ _ h => h) (Or.inl ⟨by rfl, ?hy21u11⟩) hHeld ?rest21u11
  case hy21u11 =>
    intro w' hS'
    go_simp
    try with_reducible rfl
  simp only [List.setIfInBounds_toArray, List.set_cons_zero, List.set_cons_succ]
  refine take_op (i := 22) (d := 4) (v := ?_) rfl rfl (by kernel_rfl) (by kernel_rfl) (by kernel_rfl) (fun _ _ _ h => h) (Or.inl ⟨by rfl, ?hy22u12⟩) hHeld ?rest22u12
  case hy22u12 =>
    intro w' hS'
    go_simp
    try with_reducible rfl
  simp only [List.setIfInBounds_toArray, List.set_cons_zero, List.set_cons_succ]
  refine wpAnyH_done (by kernel_rfl) ?_ _
  have hbz := hHeld.2.2
  clear hHeld
  go_wp2
  go_ret
  exact ⟨rfl, hbz⟩

set_option maxRecDepth 100000 in
set_option maxHeartbeats 1000000 in
theorem l03Is_B (wd hg x y : Int) (iw : I8 wd) (ih : I8 hg) (ix : I8 x) (iy : I8 y) (he : inI 0 (wd - 1) x = true) (sv : Value) (gb : Nat) (T : TypeId) (fr : Nat × Nat) (w : World) (hb0 : w.heap[gb]? = some (.cells (roomC wd hg sv) T fr)) :
    Calls Tryz.prog 175 #[.pointer (some ⟨gb, 0, none⟩), .agg (tileC x y)] w fun e w' => e = .returned (.bool (inI 0 (hg - 1) y)) ∧ Below w.heap.size w w' := by
  obtain ⟨iw0, iw1⟩ := iw
  obtain ⟨ih0, ih1⟩ := ih
  obtain ⟨ix0, ix1⟩ := ix
  obtain ⟨iy0, iy1⟩ := iy
  have HE := Lib.hid he
  have H0 := Lib.hid hb0
  clear he hb0
  have u1 : IntKind.i64.wrap x = x := IntWalk.i64_in _ (by omega)
  have u2 : IntKind.i64.wrap y = y := IntWalk.i64_in _ (by omega)
  have u3 : IntKind.i64.wrap wd = wd := IntWalk.i64_in _ (by omega)
  have u4 : IntKind.i64.wrap hg = hg := IntWalk.i64_in _ (by omega)
  have u5 : IntKind.i64.wrap (wd - 1) = wd - 1 := IntWalk.i64_in _ (by omega)
  have u6 : IntKind.i64.wrap (hg - 1) = hg - 1 := IntWalk.i64_in _ (by omega)
  go_enter Tryz.func175, Tryz.ntmps175
  go_upto_region 1 with (fail)
  refine abs_world (fun W => Below w.heap.size w W ∧ W.heap[w.heap.size]? = some (.cells (tileC x y) 126 (0, 0))) ⟨(Below.refl _ _).alloc (Nat.le_refl _) _, heap_alloc_new _ _⟩ ?_
  rintro W ⟨hb, h1⟩
  replace H0 := Lib.hid (below_row hb H0.out)
  have HT := Lib.hid h1
  clear h1
  refine wp_region_held_drew (S := (fun W => W.heap[gb]? = some (.cells (roomC wd hg sv) T fr) ∧ W.heap[w.heap.size]? = some (.cells (tileC x y) 126 (0, 0)) ∧ Below w.heap.size w W)) (by kernel_rfl) ⟨H0.out, HT.out, hb.drew⟩ (fun hHeld => ?_)
  refine take_op (i := 0) (d := 5) (v := ?_) rfl rfl (by kernel_rfl) (by kernel_rfl) (by kernel_rfl) (fun _ _ _ h => h) (Or.inl ⟨by rfl, ?hy0u13⟩) hHeld ?rest0u13
  case hy0u13 =>
    intro w' hS'
    go_simp
    try with_reducible rfl
  simp only [List.setIfInBounds_toArray, List.set_cons_zero, List.set_cons_succ]
  refine take_op (i := 1) (d := 6) (v := ?_) rfl rfl (by kernel_rfl) (by kernel_rfl) (by kernel_rfl) (fun _ _ _ h => h) (Or.inl ⟨by rfl, ?hy1u14⟩) hHeld ?rest1u14
  case hy1u14 =>
    intro w' hS'
    obtain ⟨s1, s2, _⟩ := hS'
    obtain ⟨r0, r1, r2⟩ := room_cells s1
    obtain ⟨k0, k1⟩ := tile_cells s2
    clear s1 s2
    go_simp
    try with_reducible rfl
  simp only [List.setIfInBounds_toArray, List.set_cons_zero, List.set_cons_succ]
  refine take_op (i := 2) (d := 7) (v := ?_) rfl rfl (by kernel_rfl) (by kernel_rfl) (by kernel_rfl) (fun _ _ _ h => h) (Or.inl ⟨by rfl, ?hy2u15⟩) hHeld ?rest2u15
  case hy2u15 =>
    intro w' hS'
    go_simp
    try with_reducible rfl
  simp only [List.setIfInBounds_toArray, List.set_cons_zero, List.set_cons_succ]
  refine take_op (i := 3) (d := 8) (v := ?_) rfl rfl (by kernel_rfl) (by kernel_rfl) (by kernel_rfl) (fun _ _ _ h => h) (Or.inl ⟨by rfl, ?hy3u16⟩) hHeld ?rest3u16
  case hy3u16 =>
    intro w' hS'
    go_simp
    try with_reducible rfl
  simp only [List.setIfInBounds_toArray, List.set_cons_zero, List.set_cons_succ]
  refine take_op (i := 4) (d := 9) (v := ?_) rfl rfl (by kernel_rfl) (by kernel_rfl) (by kernel_rfl) (fun _ _ _ h => h) (Or.inl ⟨by rfl, ?hy4u17⟩) hHeld ?rest4u17
  case hy4u17 =>
    intro w' hS'
    go_simp
    try with_reducible rfl
  simp only [List.setIfInBounds_toArray, List.set_cons_zero, List.set_cons_succ]
  refine take_op (i := 5) (d := 10) (v := ?_) rfl rfl (by kernel_rfl) (by kernel_rfl) (by kernel_rfl) (fun _ _ _ h => h) (Or.inl ⟨by rfl, ?hy5u18⟩) hHeld ?rest5u18
  case hy5u18 =>
    intro w' hS'
    go_simp
    try with_reducible rfl
  simp only [List.setIfInBounds_toArray, List.set_cons_zero, List.set_cons_succ]
  refine take_op (i := 6) (d := 11) (v := ?_) rfl rfl (by kernel_rfl) (by kernel_rfl) (by kernel_rfl) (fun _ _ _ h => h) (Or.inl ⟨by rfl, ?hy6u19⟩) hHeld ?rest6u19
  case hy6u19 =>
    intro w' hS'
    obtain ⟨s1, s2, _⟩ := hS'
    obtain ⟨r0, r1, r2⟩ := room_cells s1
    obtain ⟨k0, k1⟩ := tile_cells s2
    clear s1 s2
    go_simp
    try with_reducible rfl
  simp only [List.setIfInBounds_toArray, List.set_cons_zero, List.set_cons_succ]
  refine take_op (i := 7) (d := 12) (v := ?_) rfl rfl (by kernel_rfl) (by kernel_rfl) (by kernel_rfl) (fun _ _ _ h => h) (Or.inl ⟨by rfl, ?hy7u20⟩) hHeld ?rest7u20
  case hy7u20 =>
    intro w' hS'
    go_simp
    try with_reducible rfl
  simp only [List.setIfInBounds_toArray, List.set_cons_zero, List.set_cons_succ]
  refine take_op (i := 8) (d := 13) (v := ?_) rfl rfl (by kernel_rfl) (by kernel_rfl) (by kernel_rfl) (fun _ _ _ h => h) (Or.inl ⟨by rfl, ?hy8u21⟩) hHeld ?rest8u21
  case hy8u21 =>
    intro w' hS'
    go_simp
    try with_reducible rfl
  simp only [List.setIfInBounds_toArray, List.set_cons_zero, List.set_cons_succ]
  refine wpAnyH_ready (rs := [9]) (by kernel_rfl) (by simp) ?_
  refine AllReadyH.cons rfl (fun K hK => ?_) AllReadyH.nil
  go_simp
  refine (l00In_is x 0 (wd - 1) _ HE.out _).mono ?_
  rintro e w' ⟨rfl, rfl⟩
  refine hK.out _ _ (hHeld) (fun hHeld2 => ?_)
  clear hK K
  replace hHeld := hHeld2
  clear hHeld2
  refine take_op (i := 10) (d := 15) (v := ?_) rfl rfl (by kernel_rfl) (by kernel_rfl) (by kernel_rfl) (fun _ _ _ h => h) (Or.inl ⟨by rfl, ?hy10u22⟩) hHeld ?rest10u22
  case hy10u22 =>
    intro w' hS'
    go_simp
    try with_reducible rfl
  simp only [List.setIfInBounds_toArray, List.set_cons_zero, List.set_cons_succ]
  refine take_op (i := 11) (d := 16) (v := ?_) rfl rfl (by kernel_rfl) (by kernel_rfl) (by kernel_rfl) (fun _ _ _ h => h) (Or.inl ⟨by rfl, ?hy11u23⟩) hHeld ?rest11u23
  case hy11u23 =>
    intro w' hS'
    go_simp
    try with_reducible rfl
  simp only [List.setIfInBounds_toArray, List.set_cons_zero, List.set_cons_succ]
  refine take_op (i := 12) (d := 17) (v := ?_) rfl rfl (by kernel_rfl) (by kernel_rfl) (by kernel_rfl) (fun _ _ _ h => h) (Or.inl ⟨by rfl, ?hy12u24⟩) hHeld ?rest12u24
  case hy12u24 =>
    intro w' hS'
    obtain ⟨s1, s2, _⟩ := hS'
    obtain ⟨r0, r1, r2⟩ := room_cells s1
    obtain ⟨k0, k1⟩ := tile_cells s2
    clear s1 s2
    go_simp
    try with_reducible rfl
  simp only [List.setIfInBounds_toArray, List.set_cons_zero, List.set_cons_succ]
  refine take_op (i := 13) (d := 18) (v := ?_) rfl rfl (by kernel_rfl) (by kernel_rfl) (by kernel_rfl) (fun _ _ _ h => h) (Or.inl ⟨by rfl, ?hy13u25⟩) hHeld ?rest13u25
  case hy13u25 =>
    intro w' hS'
    go_simp
    try with_reducible rfl
  simp only [List.setIfInBounds_toArray, List.set_cons_zero, List.set_cons_succ]
  refine take_op (i := 14) (d := 19) (v := ?_) rfl rfl (by kernel_rfl) (by kernel_rfl) (by kernel_rfl) (fun _ _ _ h => h) (Or.inl ⟨by rfl, ?hy14u26⟩) hHeld ?rest14u26
  case hy14u26 =>
    intro w' hS'
    go_simp
    try with_reducible rfl
  simp only [List.setIfInBounds_toArray, List.set_cons_zero, List.set_cons_succ]
  refine take_op (i := 15) (d := 20) (v := ?_) rfl rfl (by kernel_rfl) (by kernel_rfl) (by kernel_rfl) (fun _ _ _ h => h) (Or.inl ⟨by rfl, ?hy15u27⟩) hHeld ?rest15u27
  case hy15u27 =>
    intro w' hS'
    go_simp
    try with_reducible rfl
  simp only [List.setIfInBounds_toArray, List.set_cons_zero, List.set_cons_succ]
  refine take_op (i := 16) (d := 21) (v := ?_) rfl rfl (by kernel_rfl) (by kernel_rfl) (by kernel_rfl) (fun _ _ _ h => h) (Or.inl ⟨by rfl, ?hy16u28⟩) hHeld ?rest16u28
  case hy16u28 =>
    intro w' hS'
    go_simp
    try with_reducible rfl
  simp only [List.setIfInBounds_toArray, List.set_cons_zero, List.set_cons_succ]
  refine take_op (i := 17) (d := 22) (v := ?_) rfl rfl (by kernel_rfl) (by kernel_rfl) (by kernel_rfl) (fun _ _ _ h => h) (Or.inl ⟨by rfl, ?hy17u29⟩) hHeld ?rest17u29
  case hy17u29 =>
    intro w' hS'
    obtain ⟨s1, s2, _⟩ := hS'
    obtain ⟨r0, r1, r2⟩ := room_cells s1
    obtain ⟨k0, k1⟩ := tile_cells s2
    clear s1 s2
    go_simp
    try with_reducible rfl
  simp only [List.setIfInBounds_toArray, List.set_cons_zero, List.set_cons_succ]
  refine take_op (i := 18) (d := 23) (v := ?_) rfl rfl (by kernel_rfl) (by kernel_rfl) (by kernel_rfl) (fun _ _ _ h => h) (Or.inl ⟨by rfl, ?hy18u30⟩) hHeld ?rest18u30
  case hy18u30 =>
    intro w' hS'
    go_simp
    try with_reducible rfl
  simp only [List.setIfInBounds_toArray, List.set_cons_zero, List.set_cons_succ]
  refine take_op (i := 19) (d := 24) (v := ?_) rfl rfl (by kernel_rfl) (by kernel_rfl) (by kernel_rfl) (fun _ _ _ h => h) (Or.inl ⟨by rfl, ?hy19u31⟩) hHeld ?rest19u31
  case hy19u31 =>
    intro w' hS'
    go_simp
    try with_reducible rfl
  simp only [List.setIfInBounds_toArray, List.set_cons_zero, List.set_cons_succ]
  refine wpAnyH_ready (rs := [20]) (by kernel_rfl) (by simp) ?_
  refine AllReadyH.cons rfl (fun K hK => ?_) AllReadyH.nil
  go_simp
  refine (l00In_ban y 0 (hg - 1) _).mono ?_
  rintro e w' ⟨rfl, rfl⟩
  refine hK.out _ _ (hHeld) (fun hHeld2 => ?_)
  clear hK K
  replace hHeld := hHeld2
  clear hHeld2
  refine take_op (i := 21) (d := 26) (v := ?_) rfl rfl (by kernel_rfl) (by kernel_rfl) (by kernel_rfl) (fun _ _ _ h => h) (Or.inl ⟨by rfl, ?hy21u32⟩) hHeld ?rest21u32
  case hy21u32 =>
    intro w' hS'
    go_simp
    try with_reducible rfl
  simp only [List.setIfInBounds_toArray, List.set_cons_zero, List.set_cons_succ]
  refine take_op (i := 22) (d := 4) (v := ?_) rfl rfl (by kernel_rfl) (by kernel_rfl) (by kernel_rfl) (fun _ _ _ h => h) (Or.inl ⟨by rfl, ?hy22u33⟩) hHeld ?rest22u33
  case hy22u33 =>
    intro w' hS'
    go_simp
    try with_reducible rfl
  simp only [List.setIfInBounds_toArray, List.set_cons_zero, List.set_cons_succ]
  refine wpAnyH_done (by kernel_rfl) ?_ _
  have hbz := hHeld.2.2
  clear hHeld
  go_wp2
  go_ret
  exact ⟨rfl, hbz⟩

theorem l03Is_any (wd hg x y : Int) (iw : I8 wd) (ih : I8 hg) (ix : I8 x) (iy : I8 y) (sv : Value) (gb : Nat) (T : TypeId) (fr : Nat × Nat) (w : World) (hb0 : w.heap[gb]? = some (.cells (roomC wd hg sv) T fr)) :
    Calls Tryz.prog 175 #[.pointer (some ⟨gb, 0, none⟩), .agg (tileC x y)] w fun e w' => e = .returned (.bool (isT wd hg x y)) ∧ Below w.heap.size w w' := by
  cases he : inI 0 (wd - 1) x with
  | false =>
    have e : isT wd hg x y = false := by simp [isT, he]
    rw [e]; exact l03Is_A wd hg x y iw ih ix iy he sv gb T fr w hb0
  | true =>
    have e : isT wd hg x y = inI 0 (hg - 1) y := by simp [isT, he]
    rw [e]; exact l03Is_B wd hg x y iw ih ix iy he sv gb T fr w hb0

end Go.Proofs.YtpcmcopfdghdgaaGreatDoor

namespace Go.Proofs.YtpcmcopfdghdgaaGreatDoor
open Go.RowKit

attribute [local go_sem] run_store_f

set_option maxRecDepth 100000 in
set_option maxHeartbeats 1000000 in
theorem validFn_any (wd hg : Int) (sv : Value) (x : Wn) (gb : Nat) (w : World) (hb0 : w.heap[gb]? = some (.cells (roomC wd hg sv) 70 (0, 0))) :
    Calls Tryz.prog 157 #[.agg (winC x), .pointer (some ⟨gb, 0, none⟩)] w fun e w' => e = .returned (.bool (!fitB wd hg x)) ∧ Below w.heap.size w w' := by
  have hl := row_lt hb0
  have H0 := Lib.hid hb0
  clear hb0
  go_enter Tryz.func157, Tryz.ntmps157
  go_upto_region 1 with (fail)
  refine abs_world (fun W => Below w.heap.size w W ∧ W.heap[w.heap.size]? = some (.cells (winC x) 174 (0, 0))) ⟨(Below.refl _ _).alloc (Nat.le_refl _) _, heap_alloc_new _ _⟩ ?_
  rintro W ⟨hb, h1⟩
  replace H0 := Lib.hid (below_row hb H0.out)
  have H1 := Lib.hid h1
  clear h1
  go_wp2_with (first | (refine wpList_load_part rfl 70 _ rfl gb 0 3 rfl 70 (roomC wd hg sv) (0, 0) _ H0.out Tryz.underlying70 rfl info_room (room_fits _ _ _) _ (room_all _ _ _) ?_) | (refine wpList_load_part rfl 174 _ rfl w.heap.size 0 3 rfl 174 (winC x) (0, 0) _ H1.out Tryz.underlying174 rfl info_win (win_fits _) _ (win_all _) ?_) | (go_at_call 158; refine (fits_any wd hg sv x _).mono ?_; rintro e W1 ⟨rfl, hb1⟩))
  go_ret
  exact ⟨rfl, hb.trans (hb1.mono hb.size)⟩

/-- What looking for a window that does not fit finds. -/
def Found (wd hg : Int) (ws : List Wn) (w : World) (e : Ending) (w' : World) : Prop := ∃ r : Int, e = .returned (.int .i64 r) ∧ decide (0 ≤ r) = !ws.all (fitB wd hg) ∧ Below w.heap.size w w'
set_option maxRecDepth 100000 in
set_option maxHeartbeats 1000000 in
theorem indexFn_any (wd hg : Int) (sv : Value) (ws : List Wn) (gb : Nat) (w : World) (hb0 : w.heap[gb]? = some (.cells (roomC wd hg sv) 70 (0, 0))) (hws : WinsAt w sv ws) :
    Calls Tryz.prog 180 #[sv, .func (.func 157) #[] #[.pointer (some ⟨gb, 0, none⟩)]] w fun e w' => Found wd hg ws w e w' := by
  have hws' := hws
  obtain ⟨a, cap, rfl, hl1, hl2, _⟩ := hws'
  have HW := Lib.hid hws
  have H0 := Lib.hid hb0
  clear hws hb0
  unfold maxLen at hl2
  generalize hn : ws.length = n at *
  go_enter Tryz.func180, Tryz.ntmps180
  go_wp2
  go_loopw [8] (fun i wr => ∃ k : Nat, k ≤ n ∧ i = .int .i64 k ∧ Below w.heap.size w wr ∧ (ws.take k).all (fitB wd hg) = true) (fun i _ => n - (intOf i).toNat)
  case atStart => exact ⟨0, Nat.zero_le _, rfl, Below.refl _ _, rfl⟩
  case round =>
    obtain ⟨k, hk, rfl, hb, hall⟩ := hrel
    have HA := Lib.hid hall
    clear hall
    by_cases hlt : k < n
    · have hx : ws[k]? = some ws[k] := List.getElem?_eq_getElem (by omega)
      obtain ⟨g, o, rfl, hc⟩ := win_at (wins_below HW.out hb) hx
      have HC := Lib.hid hc
      have hts : ws.take (k + 1) = ws.take k ++ [ws[k]] := by rw [List.take_succ_eq_append_getElem (by omega)]
      have HT := Lib.hid hts
      have hdx := HW.out
      generalize ws[k] = x at *
      have HD : Hid (ws[k]? = some x) := Lib.hid hx
      replace H0 := Lib.hid (below_row hb H0.out)
      have z1 : (k : Int) < (n : Int) := by omega
      have z2 : (0 : Int) ≤ (k : Int) := by omega
      clear hc hts hx hdx
      cases hf : fitB wd hg x with
      | true =>
        have hnf : (!fitB wd hg x) = false := by rw [hf]; rfl
        go_wp2_with (first | (refine wpList_load_cells rfl 174 _ rfl g (o + k * 3) 3 rfl _ Tryz.underlying174 rfl info_win (winC x) rfl HC.out ?_) | (go_at_call 157; refine (validFn_any wd hg _ x gb _ H0.out).mono ?_; rw [hnf]; rintro e W1 ⟨rfl, hb1⟩))
        go_roundw
        case rel => exact ⟨k + 1, by omega, by go_num, hb.trans (hb1.mono hb.size), by rw [HT.out, List.all_append, HA.out]; simp [hf]⟩
        case measure => simp [intOf]; omega
      | false =>
        have hnf : (!fitB wd hg x) = true := by rw [hf]; rfl
        go_wp2_with (first | (refine wpList_load_cells rfl 174 _ rfl g (o + k * 3) 3 rfl _ Tryz.underlying174 rfl info_win (winC x) rfl HC.out ?_) | (go_at_call 157; refine (validFn_any wd hg _ x gb _ H0.out).mono ?_; rw [hnf]; rintro e W1 ⟨rfl, hb1⟩))
        go_ret
        refine ⟨k, rfl, ?_, hb.trans (hb1.mono hb.size)⟩
        have hmem := List.mem_of_getElem? HD.out
        have hall : ws.all (fitB wd hg) = false := by
          rw [Bool.eq_false_iff]
          intro ha
          have := List.all_eq_true.1 ha x hmem
          rw [hf] at this; cases this
        rw [hall]; simp
    · obtain rfl : k = n := by omega
      go_wp2
      go_ret
      refine ⟨-1, rfl, ?_, hb⟩
      have hall := HA.out
      rw [List.take_of_length_le (by omega)] at hall
      rw [hall]; rfl

set_option maxRecDepth 100000 in
set_option maxHeartbeats 1000000 in
theorem containsFn_any (wd hg : Int) (sv : Value) (ws : List Wn) (gb : Nat) (w : World) (hb0 : w.heap[gb]? = some (.cells (roomC wd hg sv) 70 (0, 0))) (hws : WinsAt w sv ws) :
    Calls Tryz.prog 156 #[sv, .func (.func 157) #[] #[.pointer (some ⟨gb, 0, none⟩)]] w fun e w' => e = .returned (.bool (!ws.all (fitB wd hg))) ∧ Below w.heap.size w w' := by
  have HC := indexFn_any wd hg sv ws gb w hb0 hws
  clear hb0 hws
  go_enter Tryz.func156, Tryz.ntmps156
  go_wp2_with (go_at_call 180; refine HC.mono ?_; rintro e W1 ⟨r, rfl, hd, hb1⟩)
  go_ret
  first | exact ⟨ret_boolR hd, hb1⟩ | exact ⟨rfl, hb1⟩

theorem okRm_len {wd hg : Int} {ws : List Wn} (h0 : 1 ≤ wd ∧ wd ≤ 10) (h1 : 1 ≤ hg ∧ hg ≤ 10) (h2 : ws.length ≤ 12) : okRm wd hg ws = ws.all (fitB wd hg) := by
  simp [okRm, inI, h0, h1, h2]
theorem okRm_bad {wd hg : Int} {ws : List Wn} (h : ¬ ((1 ≤ wd ∧ wd ≤ 10) ∧ (1 ≤ hg ∧ hg ≤ 10) ∧ ws.length ≤ 12)) : okRm wd hg ws = false := by
  rw [Bool.eq_false_iff]
  intro k
  have r := okRm_get k
  exact h ⟨⟨r.w0, r.w1⟩, ⟨r.h0, r.h1⟩, r.len⟩

set_option maxRecDepth 100000 in
set_option maxHeartbeats 1000000 in
theorem ValidRoom_any (wd hg : Int) (sv : Value) (ws : List Wn) (w : World) (hws : WinsAt w sv ws) :
    Calls Tryz.prog 120 #[.agg (roomC wd hg sv)] w fun e w' => e = .returned (.bool (okRm wd hg ws)) ∧ Below w.heap.size w w' := by
  have HW := Lib.hid hws
  obtain ⟨a, cap, rfl, hl1, hl2, _⟩ := hws
  unfold maxLen at hl2
  generalize hn : ws.length = n at *
  have HN := Lib.hid hn
  clear hn
  by_cases hw : 1 ≤ wd ∧ wd ≤ 10
  · by_cases hh : 1 ≤ hg ∧ hg ≤ 10
    · by_cases hn : n ≤ 12
      · have e := okRm_len (ws := ws) hw hh (by rw [HN.out]; exact hn)
        rw [e]
        obtain ⟨w0, w1⟩ := hw
        obtain ⟨q0, q1⟩ := hh
        have z : (n : Int) ≤ 12 := by omega
        clear e
        go_enter Tryz.func120, Tryz.ntmps120
        go_upto_region 1 with (fail)
        refine abs_world (fun W => Below w.heap.size w W ∧ W.heap[w.heap.size]? = some (.cells (roomC wd hg (.slice a n cap)) 70 (0, 0))) ⟨(Below.refl _ _).alloc (Nat.le_refl _) _, heap_alloc_new _ _⟩ ?_
        rintro W ⟨hb, h0⟩
        have H0 := Lib.hid h0
        obtain ⟨k0, k1, k2⟩ := room_cells h0
        replace HW := Lib.hid (wins_below HW.out hb)
        clear h0
        have HC := Lib.hid (containsFn_any wd hg _ ws w.heap.size W H0.out HW.out)
        go_wp2_with (go_at_call 156; refine HC.out.mono ?_; rintro e W1 ⟨rfl, hb1⟩)
        go_ret
        exact ⟨ret_boolR (by cases ws.all (fitB wd hg) <;> rfl), hb.trans (hb1.mono hb.size)⟩
      · rw [okRm_bad (by rw [HN.out]; omega)]
        obtain ⟨w0, w1⟩ := hw
        obtain ⟨q0, q1⟩ := hh
        have z : (12 : Int) < (n : Int) := by omega
        go_enter Tryz.func120, Tryz.ntmps120
        go_upto_region 1 with (fail)
        refine abs_world (fun W => Below w.heap.size w W ∧ W.heap[w.heap.size]? = some (.cells (roomC wd hg (.slice a n cap)) 70 (0, 0))) ⟨(Below.refl _ _).alloc (Nat.le_refl _) _, heap_alloc_new _ _⟩ ?_
        rintro W ⟨hb, h0⟩
        have H0 := Lib.hid h0
        obtain ⟨k0, k1, k2⟩ := room_cells h0
        replace HW := Lib.hid (wins_below HW.out hb)
        clear h0
        go_wp2
        go_ret
        exact ⟨rfl, hb⟩
    · rw [okRm_bad (by omega)]
      obtain ⟨w0, w1⟩ := hw
      have hc : hg < 1 ∨ 10 < hg := by omega
      clear hh
      by_cases q : hg < 1
      · clear hc
        go_enter Tryz.func120, Tryz.ntmps120
        go_upto_region 1 with (fail)
        refine abs_world (fun W => Below w.heap.size w W ∧ W.heap[w.heap.size]? = some (.cells (roomC wd hg (.slice a n cap)) 70 (0, 0))) ⟨(Below.refl _ _).alloc (Nat.le_refl _) _, heap_alloc_new _ _⟩ ?_
        rintro W ⟨hb, h0⟩
        have H0 := Lib.hid h0
        obtain ⟨k0, k1, k2⟩ := room_cells h0
        replace HW := Lib.hid (wins_below HW.out hb)
        clear h0
        go_wp2
        go_ret
        exact ⟨rfl, hb⟩
      · have q1 : 1 ≤ hg := by omega
        have q2 : 10 < hg := by omega
        clear q hc
        go_enter Tryz.func120, Tryz.ntmps120
        go_upto_region 1 with (fail)
        refine abs_world (fun W => Below w.heap.size w W ∧ W.heap[w.heap.size]? = some (.cells (roomC wd hg (.slice a n cap)) 70 (0, 0))) ⟨(Below.refl _ _).alloc (Nat.le_refl _) _, heap_alloc_new _ _⟩ ?_
        rintro W ⟨hb, h0⟩
        have H0 := Lib.hid h0
        obtain ⟨k0, k1, k2⟩ := room_cells h0
        replace HW := Lib.hid (wins_below HW.out hb)
        clear h0
        go_wp2
        go_ret
        exact ⟨rfl, hb⟩
  · rw [okRm_bad (by omega)]
    have hc : wd < 1 ∨ 10 < wd := by omega
    clear hw
    by_cases q : wd < 1
    · clear hc
      go_enter Tryz.func120, Tryz.ntmps120
      go_upto_region 1 with (fail)
      refine abs_world (fun W => Below w.heap.size w W ∧ W.heap[w.heap.size]? = some (.cells (roomC wd hg (.slice a n cap)) 70 (0, 0))) ⟨(Below.refl _ _).alloc (Nat.le_refl _) _, heap_alloc_new _ _⟩ ?_
      rintro W ⟨hb, h0⟩
      have H0 := Lib.hid h0
      obtain ⟨k0, k1, k2⟩ := room_cells h0
      replace HW := Lib.hid (wins_below HW.out hb)
      clear h0
      go_wp2
      go_ret
      exact ⟨rfl, hb⟩
    · have q1 : 1 ≤ wd := by omega
      have q2 : 10 < wd := by omega
      clear q hc
      go_enter Tryz.func120, Tryz.ntmps120
      go_upto_region 1 with (fail)
      refine abs_world (fun W => Below w.heap.size w W ∧ W.heap[w.heap.size]? = some (.cells (roomC wd hg (.slice a n cap)) 70 (0, 0))) ⟨(Below.refl _ _).alloc (Nat.le_refl _) _, heap_alloc_new _ _⟩ ?_
      rintro W ⟨hb, h0⟩
      have H0 := Lib.hid h0
      obtain ⟨k0, k1, k2⟩ := room_cells h0
      replace HW := Lib.hid (wins_below HW.out hb)
      clear h0
      go_wp2
      go_ret
      exact ⟨rfl, hb⟩

end Go.Proofs.YtpcmcopfdghdgaaGreatDoor
