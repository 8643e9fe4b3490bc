/-
  The light inside at a tick, and whether a state is steady: the program's and the model's.

-/
import Derived.Test.YtddnfbpgldchcaaGreatDoorCoS
import Derived.Test.YtddnfbpgldchcaaGreatDoorCoQ
import Derived.Great.Walk

namespace Go.Proofs.YtddnfbpgldchcaaGreatDoor

open Go.ChangeShapes Go.WideShapes Go.ChangeAt Go.RowKit Go.Deep Go.Joins

attribute [local go_sem] run_store_f

theorem wpList_buildSlice5 {P : Program} {ops : Array Oper} {rest : List Oper} {o : Oper} {a : Act} {w : World} {Q : Exit → Act → World → Prop} (hg : o.guard = none) (t e : TypeId) (len : Nat) (parts : Array (Nat × Operand)) (ho : o.op = .buildSlice t len parts)
    (N : Nat) (hN : w.heap.size = N) (dst : Option Tmp) (hdst : o.dst = dst) (hu : P.underlying t = some (.slice e)) (cells : Array Value) (q : List (Nat × Value)) (hp : parts.toList.map (fun x => (x.1, a.eval x.2)) = q)
    (hf : P.builtSlice e len q = some cells)
    (h : wpList P ops Q rest (a.put dst (.slice (some ⟨N, 0, none⟩) len len)) (w.alloc (.cells cells e))) : wpList P ops Q (o :: rest) a w := by
  refine Great.wpList_buildSliceTo hg t e len parts ho N hN dst hdst hu cells ?_ h
  rw [Array.toList_map, ← hf, ← hp]

set_option maxRecDepth 100000 in
theorem built_tks (lg : Nat) (gu : Nat) (hg : Int) : Tryz.prog.builtSlice 47 1 [(0, .agg (tkC lg gu hg))] = some (tkC lg gu hg) := by kernel_rfl

/-- Everything that is asked holds. -/
def codeO (lo : Nat) (hi : Nat) (wi : Nat) (st : Int) (de : Int) (ca : Int) (n : Int) (wd gp : Nat) (t : Int) (sh : Nat) (ti : Int) (wt : Int) (sm : Int) (lg : Nat) (gu : Nat) (hg : Int) : Int := codeT (okCt lo hi wi st de ca) (okBl n wd gp t sh) (okSa ti wt sm) [(lg, gu, hg)]

theorem codeO_zero {lo hi wi : Nat} {st de ca n : Int} {wd gp : Nat} {t : Int} {sh : Nat} {ti wt sm : Int} {lg gu : Nat} {hg : Int} (h : codeO lo hi wi st de ca n wd gp t sh ti wt sm lg gu hg = 0) : okCt lo hi wi st de ca = true ∧ okBl n wd gp t sh = true ∧ okSa ti wt sm = true ∧ okTk lg gu hg = true := by
  unfold codeO codeT at h
  by_cases c : (okCt lo hi wi st de ca && okBl n wd gp t sh && okSa ti wt sm && List.all [(lg, gu, hg)] okT) = false
  · rw [if_pos c] at h; cases h
  · have c' := (Bool.not_eq_false _).mp c
    simp only [List.all_cons, List.all_nil, Bool.and_true, Bool.and_eq_true, okT] at c'
    exact ⟨c'.1.1.1, c'.1.1.2, c'.1.2, c'.2⟩

theorem ckO (lo : Nat) (hi : Nat) (wi : Nat) (st : Int) (de : Int) (ca : Int) (cw : CtWf lo hi wi st de ca) (n : Int) (wd gp : Nat) (t : Int) (sh : Nat) (bw : BlWf n wd gp t sh) (ti : Int) (wt : Int) (sm : Int) (sw : SaWf ti wt sm) (lg : Nat) (gu : Nat) (hg : Int) (kw : TkWf lg gu hg) (c : Int) (hc : codeO lo hi wi st de ca n wd gp t sh ti wt sm lg gu hg = c) (g : Nat) (T : TypeId) (fr : Nat × Nat) (w : World) (hg' : w.heap[g]? = some (.cells (tkC lg gu hg) T fr)) :
    Calls Tryz.prog 59 #[.agg (ctC lo hi wi st de ca), .agg (blindC n wd gp t sh), .agg (saC ti wt sm), .slice (some ⟨g, 0, none⟩) 1 1] w fun e w' => e = .returned (.int .i64 c) ∧ Below w.heap.size w w' := by
  subst hc
  exact checkTicks_any lo hi wi st de ca cw n wd gp t sh bw ti wt sm sw _ [(lg, gu, hg)] (fun x hx => by simp at hx; subst hx; exact kw) w (one_tick (lg, gu, hg) hg')

theorem asO (lo : Nat) (hi : Nat) (wi : Nat) (st : Int) (de : Int) (ca : Int) (cw : CtWf lo hi wi st de ca) (n : Int) (wd gp : Nat) (t : Int) (sh : Nat) (bw : BlWf n wd gp t sh) (ti : Int) (wt : Int) (sm : Int) (sw : SaWf ti wt sm) (lg : Nat) (gu : Nat) (hg : Int) (kw : TkWf lg gu hg) (c : Int) (hc : codeO lo hi wi st de ca n wd gp t sh ti wt sm lg gu hg = c) (g1 g2 g3 g : Nat) (T1 T2 T3 T : TypeId) (f1 f2 f3 fr : Nat × Nat) (w : World) (h1 : w.heap[g1]? = some (.cells (ctC lo hi wi st de ca) T1 f1)) (h2 : w.heap[g2]? = some (.cells (blindC n wd gp t sh) T2 f2)) (h3 : w.heap[g3]? = some (.cells (saC ti wt sm) T3 f3)) (hg' : w.heap[g]? = some (.cells (tkC lg gu hg) T fr)) :
    Calls Tryz.prog 62 #[.pointer (some ⟨g1, 0, none⟩), .pointer (some ⟨g2, 0, none⟩), .pointer (some ⟨g3, 0, none⟩), .slice (some ⟨g, 0, none⟩) 1 1] w fun e w' => e = .returned (.int .i64 c) ∧ Below w.heap.size w w' := by
  subst hc
  exact l05Asked_any lo hi wi st de ca cw n wd gp t sh bw ti wt sm sw _ [(lg, gu, hg)] (fun x hx => by simp at hx; subst hx; exact kw) g1 g2 g3 T1 T2 T3 f1 f2 f3 w h1 h2 h3 (one_tick (lg, gu, hg) hg')

end Go.Proofs.YtddnfbpgldchcaaGreatDoor
