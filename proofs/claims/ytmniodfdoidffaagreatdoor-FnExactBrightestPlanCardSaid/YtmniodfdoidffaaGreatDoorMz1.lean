/-
  AwA, Box, ShA, Near, Add, FallN, ShadeN, LawValid, Fns, Up, Angle, Same, Ground, Fall, FallOn, AwOk, ShF, BlkRun.
-/
import Derived.Test.YtmniodfdoidffaaGreatDoorAgg
import Derived.Test.YtmniodfdoidffaaGreatDoorRow
import Derived.Deep.Cut
import Derived.Deep.DeepCutAuto
import Derived.Test.YtmniodfdoidffaaGreatDoorRows
import Derived.WalkSpells
import Derived.WalkLawsBesides
import Derived.Lib.Hide
import Derived.Test.YtmniodfdoidffaaGreatDoorSun
import Derived.Laws.Tables
import Derived.Test.YtmniodfdoidffaaGreatDoorTake
import Derived.Great.BuildSlice
import Derived.Test.YtmniodfdoidffaaGreatDoorBlk
import Derived.Test.YtmniodfdoidffaaGreatDoorMul
import Derived.Test.YtmniodfdoidffaaGreatDoorValid
import Derived.Test.YtmniodfdoidffaaGreatDoorOpen
import Derived.Test.YtmniodfdoidffaaGreatDoorPlain
import Derived.WalkKit
import Derived.Laws.EntriesVeiled
import Derived.Test.YtmniodfdoidffaaGreatDoorWide
import Derived.Test.YtmniodfdoidffaaGreatDoorSgn
import Derived.Test.YtmniodfdoidffaaGreatDoorLaw
import Derived.Test.YtmniodfdoidffaaGreatDoorBok

namespace Go.Proofs.YtmniodfdoidffaaGreatDoor
open Go.ChangeShapes Go.WideShapes Go.ChangeAt Go.RowKit Go.Deep Go.Joins

attribute [local go_sem] run_store_f

/-- Awning, as cells. -/
def awC (o : Nat) (dr : Nat) (gp : Nat) (tl : Nat) : Array Value := #[.float .f32 o, .float .f32 dr, .float .f32 gp, .float .f32 tl]

def AwWf (o : Nat) (dr : Nat) (gp : Nat) (tl : Nat) : Prop := (Lit.float .f32 o).wf = true ∧ (Lit.float .f32 dr).wf = true ∧ (Lit.float .f32 gp).wf = true ∧ (Lit.float .f32 tl).wf = true





theorem aw_fits (o : Nat) (dr : Nat) (gp : Nat) (tl : Nat) : 0 + 4 ≤ (awC o dr gp tl).size := Nat.le_refl _

theorem aw_all (o : Nat) (dr : Nat) (gp : Nat) (tl : Nat) : (awC o dr gp tl).extract 0 (0 + 4) = awC o dr gp tl := rfl

theorem aw_one (o : Nat) (dr : Nat) (gp : Nat) (tl : Nat) : ∀ v ∈ awC o dr gp tl, v.oneCell' = true := by
  intro v hv
  simp only [awC, List.mem_toArray, List.mem_cons, List.not_mem_nil, or_false] at hv
  rcases hv with rfl | rfl | rfl | rfl <;> rfl

theorem aw_cells {o : Nat} {dr : Nat} {gp : Nat} {tl : Nat} {W : World} {b : Nat} {T : TypeId} {fr : Nat × Nat} (h : W.heap[b]? = some (.cells (awC o dr gp tl) T fr)) :
    W.cell? ⟨b, 0, none⟩ = some (.float .f32 o) ∧ W.cell? ⟨b, 1, none⟩ = some (.float .f32 dr) ∧ W.cell? ⟨b, 2, none⟩ = some (.float .f32 gp) ∧ W.cell? ⟨b, 3, none⟩ = some (.float .f32 tl) :=
  ⟨by rw [cell_of_row W _ _ _ _ _ h]; rfl, by rw [cell_of_row W _ _ _ _ _ h]; rfl, by rw [cell_of_row W _ _ _ _ _ h]; rfl, by rw [cell_of_row W _ _ _ _ _ h]; rfl⟩

end Go.Proofs.YtmniodfdoidffaaGreatDoor

namespace Go.Proofs.YtmniodfdoidffaaGreatDoor
open Go Go.RowKit

theorem alloc_at (w : World) (o : Obj) (i : Nat) : (w.alloc o).heap[i]? = if i = w.heap.size then some o else w.heap[i]? := by
  show (w.heap.push o)[i]? = _
  exact Array.getElem?_push
theorem box2 (w : World) (a b : Obj) : ((w.alloc a).alloc b).heap[w.heap.size]? = some a ∧ ((w.alloc a).alloc b).heap[w.heap.size + 1]? = some b ∧ Below w.heap.size w ((w.alloc a).alloc b) := by
  refine ⟨?_, ?_, ((Below.refl _ _).alloc (Nat.le_refl _) _).alloc (by simp) _⟩
  all_goals simp only [alloc_at, World.size_alloc]
  · rw [if_neg (by omega), if_true]
  · rw [if_true]
theorem box3 (w : World) (a b c : Obj) : (((w.alloc a).alloc b).alloc c).heap[w.heap.size]? = some a ∧ (((w.alloc a).alloc b).alloc c).heap[w.heap.size + 1]? = some b ∧ (((w.alloc a).alloc b).alloc c).heap[w.heap.size + 1 + 1]? = some c ∧ Below w.heap.size w (((w.alloc a).alloc b).alloc c) := by
  refine ⟨?_, ?_, ?_, (((Below.refl _ _).alloc (Nat.le_refl _) _).alloc (by simp) _).alloc (by simp; omega) _⟩
  all_goals simp only [alloc_at, World.size_alloc]
  · rw [if_neg (by omega), if_neg (by omega), if_true]
  · rw [if_neg (by omega), if_true]
  · rw [if_true]
theorem box4 (w : World) (a b c d : Obj) : ((((w.alloc a).alloc b).alloc c).alloc d).heap[w.heap.size]? = some a ∧ ((((w.alloc a).alloc b).alloc c).alloc d).heap[w.heap.size + 1]? = some b ∧ ((((w.alloc a).alloc b).alloc c).alloc d).heap[w.heap.size + 1 + 1]? = some c ∧ ((((w.alloc a).alloc b).alloc c).alloc d).heap[w.heap.size + 1 + 1 + 1]? = some d ∧ Below w.heap.size w ((((w.alloc a).alloc b).alloc c).alloc d) := by
  refine ⟨?_, ?_, ?_, ?_, ((((Below.refl _ _).alloc (Nat.le_refl _) _).alloc (by simp) _).alloc (by simp; omega) _).alloc (by simp; omega) _⟩
  all_goals simp only [alloc_at, World.size_alloc]
  · rw [if_neg (by omega), if_neg (by omega), if_neg (by omega), if_true]
  · rw [if_neg (by omega), if_neg (by omega), if_true]
  · rw [if_neg (by omega), if_true]
  · rw [if_true]
theorem cell_belowB {W W' : World} (hb : Below W.heap.size W W') {a : Addr} {v : Value} (h : W.cell? a = some v) : W'.cell? a = some v :=
  (hb.cell (World.block_lt_of_cell? W a h)).trans h

theorem wpList_load_partG {P : Program} {ops : Array Oper} {rest : List Oper} {o : Oper} {a : Act} {w : World} {Q : Exit → Act → World → Prop} (ty : TypeId) (x : Operand) (ho : o.op = .load ty x)
    (g off n : Nat) (hx : a.eval x = .pointer (some ⟨g, off, none⟩)) (hw : Region.wanted o (yielded ops a.tmps) = true) (t : TypeId) (cs : Array Value) (fr : Nat × Nat) (d : TypeDesc) (hg : w.heap[g]? = some (.cells cs t fr))
    (hu : P.underlying ty = some d) (hd : (match d with | .struct _ | .array _ _ => true | _ => false) = true) (hi : (P.info? ty).map (·.size) = some n) (hn : off + n ≤ cs.size)
    (vs : Array Value) (hvs : cs.extract off (off + n) = vs) (h : wpList P ops Q rest (a.put o.dst (.agg vs)) w) : wpList P ops Q (o :: rest) a w := by
  subst hvs
  refine wpList_step fun K hK => ?_
  simp only [hw, if_true]
  unfold Oper.wp execOp
  simp only [ho, hx, Instr.loadAt, Instr.sureAddr, Sem.run_bind, Sem.run_pure, Result.andThen_ok, run_loadVar_part w g off n t ty cs fr d hg hu hd hi hn]
  exact hK _ _ h

end Go.Proofs.YtmniodfdoidffaaGreatDoor

namespace Go.Proofs.YtmniodfdoidffaaGreatDoor
open Go.ChangeShapes Go.WideShapes Go.ChangeAt Go.RowKit Go.Deep Go.Joins

/-- A sun and a facing, and an awning besides, as cells. -/
def fsC (hs ts : List Int) (fc : Int) : Array Value := sunC hs ts ++ #[.int .i64 fc]

def shC (hs ts : List Int) (fc : Int) (o dr gp tl : Nat) : Array Value := fsC hs ts fc ++ awC o dr gp tl

theorem fsC_size (hs ts : List Int) (fc : Int) (h : hs.length = 24) (t : ts.length = 24) : (fsC hs ts fc).size = 49 := by simp [fsC, sunC_size _ _ h t]

theorem shC_size (hs ts : List Int) (fc : Int) (o dr gp tl : Nat) (h : hs.length = 24) (t : ts.length = 24) : (shC hs ts fc o dr gp tl).size = 53 := by simp [shC, fsC_size _ _ fc h t, awC]

theorem fs_fits (hs ts : List Int) (fc : Int) (h : hs.length = 24) (t : ts.length = 24) : 0 + 49 ≤ (fsC hs ts fc).size := by rw [fsC_size _ _ _ h t]; decide

theorem fs_fits48 (hs ts : List Int) (fc : Int) (h : hs.length = 24) (t : ts.length = 24) : 0 + 48 ≤ (fsC hs ts fc).size := by rw [fsC_size _ _ _ h t]; decide

theorem sh_fits (hs ts : List Int) (fc : Int) (o dr gp tl : Nat) (h : hs.length = 24) (t : ts.length = 24) : 0 + 53 ≤ (shC hs ts fc o dr gp tl).size := by rw [shC_size _ _ _ _ _ _ _ h t]; decide

theorem sh_fits49 (hs ts : List Int) (fc : Int) (o dr gp tl : Nat) (h : hs.length = 24) (t : ts.length = 24) : 0 + 49 ≤ (shC hs ts fc o dr gp tl).size := by rw [shC_size _ _ _ _ _ _ _ h t]; decide

theorem extract_left (a b : Array Value) (n : Nat) (h : a.size = n) : (a ++ b).extract 0 (0 + n) = a := by
  subst h; simp

theorem fs_all (hs ts : List Int) (fc : Int) (h : hs.length = 24) (t : ts.length = 24) : (fsC hs ts fc).extract 0 (0 + 49) = fsC hs ts fc := by
  rw [Nat.zero_add, ← fsC_size hs ts fc h t, Array.extract_size]

theorem fs_sun (hs ts : List Int) (fc : Int) (h : hs.length = 24) (t : ts.length = 24) : (fsC hs ts fc).extract 0 (0 + 48) = sunC hs ts := extract_left _ _ _ (sunC_size _ _ h t)

theorem sh_all (hs ts : List Int) (fc : Int) (o dr gp tl : Nat) (h : hs.length = 24) (t : ts.length = 24) : (shC hs ts fc o dr gp tl).extract 0 (0 + 53) = shC hs ts fc o dr gp tl := by
  rw [Nat.zero_add, ← shC_size hs ts fc o dr gp tl h t, Array.extract_size]

theorem sh_fs (hs ts : List Int) (fc : Int) (o dr gp tl : Nat) (h : hs.length = 24) (t : ts.length = 24) : (shC hs ts fc o dr gp tl).extract 0 (0 + 49) = fsC hs ts fc := extract_left _ _ _ (fsC_size _ _ _ h t)

theorem sunC_one (hs ts : List Int) : ∀ v ∈ sunC hs ts, v.oneCell' = true := i16s_one _

theorem fs_one (hs ts : List Int) (fc : Int) : ∀ v ∈ fsC hs ts fc, v.oneCell' = true := by
  intro v hv
  rcases Array.mem_append.1 hv with h | h
  · exact sunC_one _ _ v h
  · simp only [List.mem_toArray, List.mem_cons, List.not_mem_nil, or_false] at h
    subst h; rfl

theorem sh_one (hs ts : List Int) (fc : Int) (o dr gp tl : Nat) : ∀ v ∈ shC hs ts fc o dr gp tl, v.oneCell' = true := by
  intro v hv
  rcases Array.mem_append.1 hv with h | h
  · exact fs_one _ _ _ v h
  · exact aw_one _ _ _ _ v h

theorem fs_48 (hs ts : List Int) (fc : Int) (h : hs.length = 24) (t : ts.length = 24) : (fsC hs ts fc)[48]? = some (.int .i64 fc) := by
  have e : (sunC hs ts).size = 48 := sunC_size _ _ h t
  unfold fsC
  rw [Array.getElem?_append_right (by omega), e]; rfl

theorem fs_cell {hs ts : List Int} {fc : Int} {W : World} {b : Nat} {T : TypeId} {fr : Nat × Nat} (h : hs.length = 24) (t : ts.length = 24) (hg : W.heap[b]? = some (.cells (fsC hs ts fc) T fr)) : W.cell? ⟨b, 48, none⟩ = some (.int .i64 fc) := by
  rw [cell_of_row W _ _ _ _ _ hg, fs_48 _ _ _ h t]

theorem sh_ge (hs ts : List Int) (fc : Int) (o dr gp tl : Nat) (h : hs.length = 24) (t : ts.length = 24) (k : Nat) : (shC hs ts fc o dr gp tl)[49 + k]? = (awC o dr gp tl)[k]? := by
  have e : (fsC hs ts fc).size = 49 := fsC_size _ _ _ h t
  unfold shC
  rw [Array.getElem?_append_right (by omega), e, Nat.add_sub_cancel_left]

theorem sh_cells {hs ts : List Int} {fc : Int} {o dr gp tl : Nat} {W : World} {b : Nat} {T : TypeId} {fr : Nat × Nat} (h : hs.length = 24) (t : ts.length = 24) (hg : W.heap[b]? = some (.cells (shC hs ts fc o dr gp tl) T fr)) :
    W.cell? ⟨b, 49, none⟩ = some (.float .f32 o) ∧ W.cell? ⟨b, 50, none⟩ = some (.float .f32 dr) ∧ W.cell? ⟨b, 51, none⟩ = some (.float .f32 gp) ∧ W.cell? ⟨b, 52, none⟩ = some (.float .f32 tl) :=
  ⟨by rw [cell_of_row W _ _ _ _ _ hg]; exact sh_ge _ _ _ _ _ _ _ h t 0, by rw [cell_of_row W _ _ _ _ _ hg]; exact sh_ge _ _ _ _ _ _ _ h t 1, by rw [cell_of_row W _ _ _ _ _ hg]; exact sh_ge _ _ _ _ _ _ _ h t 2, by rw [cell_of_row W _ _ _ _ _ hg]; exact sh_ge _ _ _ _ _ _ _ h t 3⟩

set_option maxRecDepth 100000 in
theorem info_fs : (Tryz.prog.info? 62).map (·.size) = some 49 := by kernel_rfl

theorem len24 {xs : List Int} (h : xs.length = 24) : ∃ a0 a1 a2 a3 a4 a5 a6 a7 a8 a9 b0 b1 b2 b3 b4 b5 b6 b7 b8 b9 c0 c1 c2 c3 : Int, xs = [a0, a1, a2, a3, a4, a5, a6, a7, a8, a9, b0, b1, b2, b3, b4, b5, b6, b7, b8, b9, c0, c1, c2, c3] := by
  match xs, h with
  | [a0, a1, a2, a3, a4, a5, a6, a7, a8, a9, b0, b1, b2, b3, b4, b5, b6, b7, b8, b9, c0, c1, c2, c3], _ => exact ⟨_, _, _, _, _, _, _, _, _, _, _, _, _, _, _, _, _, _, _, _, _, _, _, _, rfl⟩

set_option maxRecDepth 100000 in
theorem built_fs (hs ts : List Int) (fc : Int) (h : hs.length = 24) (t : ts.length = 24) : Tryz.prog.built 62 [(0, .agg (sunC hs ts)), (1, .int .i64 fc)] = some (fsC hs ts fc) := by
  obtain ⟨a0, a1, a2, a3, a4, a5, a6, a7, a8, a9, b0, b1, b2, b3, b4, b5, b6, b7, b8, b9, c0, c1, c2, c3, rfl⟩ := len24 h
  obtain ⟨d0, d1, d2, d3, d4, d5, d6, d7, d8, d9, e0, e1, e2, e3, e4, e5, e6, e7, e8, e9, f0, f1, f2, f3, rfl⟩ := len24 t
  kernel_rfl

theorem wpList_buildL {P : Program} {ops : Array Oper} {rest : List Oper} {o : Oper} {a : Act} {w : World} {Q : Exit → Act → World → Prop} (hg : o.guard = none) (t : TypeId) (parts : Array (Nat × Operand)) (ho : o.op = .build t parts)
    (d : Option Tmp) (hd : o.dst = d) (l : List (Nat × Value)) (hp : parts.toList.map (fun x => (x.1, a.eval x.2)) = l) (cells : Array Value) (hf : P.built t l = some cells)
    (h : wpList P ops Q rest (a.put d (.agg cells)) w) : wpList P ops Q (o :: rest) a w := by
  refine wpList_buildTo hg t parts ho d hd cells ?_ h
  rw [Array.toList_map, ← hf, ← hp]

end Go.Proofs.YtmniodfdoidffaaGreatDoor

namespace Go.Proofs.YtmniodfdoidffaaGreatDoor
open Go

theorem cut_sign (s : Bool) (n d : Nat) : Ieee.Toward.even.cut s n d = Ieee.Toward.even.cut false n d := by
  unfold Ieee.Toward.cut
  rfl

theorem nearest_sign (s : Bool) (m : Nat) (e : Int) : Ieee.single.nearest s m e = if s then 2147483648 + Ieee.single.nearest false m e else Ieee.single.nearest false m e := by
  have hw : Ieee.single.signWeight = 2147483648 := by decide
  have hword : ∀ r, Ieee.single.word s r = if s then 2147483648 + Ieee.single.word false r else Ieee.single.word false r := by
    intro r
    unfold Ieee.Format.word
    rw [hw]
    cases s <;> rfl
  unfold Ieee.Format.nearest
  by_cases hm : m = 0
  · rw [if_pos hm, if_pos hm]
    exact hword 0
  · rw [if_neg hm, if_neg hm]
    dsimp only
    rw [cut_sign s]
    exact hword _

theorem signed_not (t : Bool) (n k : Nat) : Ieee.signed (!t) n k = - Ieee.signed t n k := by
  unfold Ieee.signed
  cases t <;> simp

theorem sub_num {x y B C : Nat} (hx : isNum x) (hy : isNum y) (hX : (sv x).natAbs ≤ rv B) (hY : (sv y).natAbs ≤ rv B) (hBC : 2 * rv B ≤ rv C) (hC : C < 2139095040) :
    floatBits .sub .f32 x y = some (fsub x y) ∧ isNum (fsub x y) := by
  obtain ⟨s, m, i, hr, hm⟩ := read_num32 hx
  obtain ⟨t, n, j, hq, hn⟩ := read_num32 hy
  rw [← signed_scale s m i (min i j) (Nat.min_le_left _ _)] at hm
  rw [← signed_scale t n j (min i j) (Nat.min_le_right _ _)] at hn
  have h : Ieee.single.sub x y = some (Ieee.single.nearest (if Ieee.signed s m (i - min i j) - Ieee.signed t n (j - min i j) = 0 then (s && !t) else decide (Ieee.signed s m (i - min i j) - Ieee.signed t n (j - min i j) < 0)) (Ieee.signed s m (i - min i j) - Ieee.signed t n (j - min i j)).natAbs (-149 + ((min i j : Nat) : Int))) := by
    unfold Ieee.Format.sub
    rw [hr, hq]
    have e0 : min (-149 + (i : Int)) (-149 + (j : Int)) = -149 + ((min i j : Nat) : Int) := by omega
    have e1 : (-149 + (i : Int) - (-149 + ((min i j : Nat) : Int))).toNat = i - min i j := by omega
    have e2 : (-149 + (j : Int) - (-149 + ((min i j : Nat) : Int))).toNat = j - min i j := by omega
    simp only [Ieee.Datum.opposite, Ieee.Datum.sum, Option.map_some, Ieee.Format.write, e0, e1, e2, signed_not, ← Int.sub_eq_add_neg]
  refine ⟨by unfold fsub; rw [h]; exact h, ?_⟩
  have e1 : fsub x y = (Ieee.single.sub x y).getD 0 := rfl
  rw [h, Option.getD_some] at e1
  generalize hT : Ieee.signed s m (i - min i j) - Ieee.signed t n (j - min i j) = T at *
  have hsv : T * ((2 ^ min i j : Nat) : Int) = sv x - sv y := by rw [← hT, Int.sub_mul, hm, hn]
  have habs : T.natAbs * 2 ^ min i j ≤ rv C := by
    have h1 : (T * ((2 ^ min i j : Nat) : Int)).natAbs = T.natAbs * 2 ^ min i j := by rw [Int.natAbs_mul, Int.natAbs_natCast]
    rw [← h1, hsv]
    omega
  have hR := nearest_rnd T.natAbs (-149 + ((min i j : Nat) : Int)) (min i j) 0 (by omega)
  have hle := rnd_le hR (r := C) (by decide) (by simpa using habs)
  rw [e1]
  generalize (if T = 0 then (s && !t) else decide (T < 0)) = sg
  rw [nearest_sign]
  cases sg
  · rw [if_neg (by simp)]; exact .inl (by omega)
  · rw [if_pos rfl]; exact .inr ⟨by omega, by omega⟩

theorem size_isNum {x : Nat} (h : isNum x) : isNum (sizeB x) := by
  unfold sizeB
  split
  · rcases h with h | ⟨h1, h2⟩
    · exact .inl (by omega)
    · exact .inl (by omega)
  · exact h

/-- Whether a number is less than another one. -/
def ltF (a b : Nat) : Bool := FloatKind.f32.format.order a b == some .lt
/-- The first of several numbers that is least. -/
def firstMin (d : Nat → Nat) : Nat → Nat
  | 0 => 0
  | k + 1 => if ltF (d (k + 1)) (d (firstMin d k)) then k + 1 else firstMin d k
theorem firstMin_le (d : Nat → Nat) : ∀ k, firstMin d k ≤ k
  | 0 => Nat.le_refl _
  | k + 1 => by
    have := firstMin_le d k
    unfold firstMin
    split <;> omega
theorem firstMin_hit {d : Nat → Nat} {k : Nat} (h : ltF (d (k + 1)) (d (firstMin d k)) = true) : firstMin d (k + 1) = k + 1 := by rw [firstMin, if_pos h]
theorem firstMin_miss {d : Nat → Nat} {k : Nat} (h : ltF (d (k + 1)) (d (firstMin d k)) = false) : firstMin d (k + 1) = firstMin d k := by rw [firstMin, if_neg (by rw [h]; decide)]
/-- The order of two finite numbers. -/
theorem order_cases {x y : Nat} (hx : isNum x) (hy : isNum y) : (FloatKind.f32.format.order x y = some .lt ∧ ltF x y = true) ∨ (FloatKind.f32.format.order x y = some .eq ∧ ltF x y = false) ∨ (FloatKind.f32.format.order x y = some .gt ∧ ltF x y = false) := by
  unfold ltF
  rw [order_num hx hy]
  cases compare (sv x) (sv y) <;> simp
theorem order_self {x : Nat} (hx : isNum x) : FloatKind.f32.format.order x x = some .eq := by
  rw [order_num hx hx, Int.compare_eq_eq.2 rfl]

/-- The same, with the first one looked at twice. -/
def bestK (d : Nat → Nat) (k : Nat) : Nat := if k = 0 then 0 else firstMin d (k - 1)
theorem bestK_hit {d : Nat → Nat} {k : Nat} (h : ltF (d k) (d (bestK d k)) = true) : bestK d (k + 1) = k := by
  cases k with
  | zero => rfl
  | succ k => exact firstMin_hit h
theorem bestK_miss {d : Nat → Nat} {k : Nat} (h : ltF (d k) (d (bestK d k)) = false) : bestK d (k + 1) = bestK d k := by
  cases k with
  | zero => rfl
  | succ k => exact firstMin_miss h
theorem bestK_lt (d : Nat → Nat) {k n : Nat} (h : k ≤ n) (hn : 0 < n) : bestK d k < n := by
  unfold bestK
  split
  · exact hn
  · have := firstMin_le d (k - 1)
    omega
theorem bestK_end (d : Nat → Nat) {n : Nat} (hn : 0 < n) : bestK d n = firstMin d (n - 1) := by
  unfold bestK
  rw [if_neg (by omega)]

end Go.Proofs.YtmniodfdoidffaaGreatDoor

namespace Go.Proofs.YtmniodfdoidffaaGreatDoor
open Go

/-- No NaN, and no minus sign. -/
def pos32 (x : Nat) : Bool := match Ieee.single.read x with | .number s _ _ => !s | .infinity s => !s | .nan _ _ => false

theorem pos_fin {x : Nat} (h : pos32 x = true) : fin32 x = true := by
  unfold pos32 at h
  unfold fin32
  cases hr : Ieee.single.read x with
  | number s m e => rfl
  | infinity s => rfl
  | nan s f => rw [hr] at h; cases h

theorem pos_word (k : Nat) (h : k ≤ Ieee.single.infRung) : pos32 (Ieee.single.word false k) = true := by
  have hi : Ieee.single.infRung = 2139095040 := by decide
  have hw : Ieee.single.signWeight = 2147483648 := by decide
  rw [hi] at h
  unfold pos32 Ieee.Format.read Ieee.Format.word
  simp only [hi, hw, Bool.false_eq_true, if_false]
  have hk : k % 2147483648 = k := Nat.mod_eq_of_lt (by omega)
  have hd : k / 2147483648 = 0 := Nat.div_eq_of_lt (by omega)
  rw [hk, hd]
  by_cases c1 : k < Ieee.single.binade
  · rw [if_pos c1]; rfl
  · rw [if_neg c1]
    by_cases c2 : k < 2139095040
    · rw [if_pos c2]; rfl
    · rw [if_neg c2, if_pos (by omega)]; rfl

theorem pos_nearest (m : Nat) (e : Int) : pos32 (Ieee.single.nearest false m e) = true := by
  unfold Ieee.Format.nearest
  split
  · exact pos_word 0 (Nat.zero_le _)
  · exact pos_word _ (Nat.min_le_right _ _)

theorem signed_nonneg (m u : Nat) : 0 ≤ Ieee.signed false m u := by
  unfold Ieee.signed
  rw [if_neg (by decide)]
  exact Int.natCast_nonneg _

/-- A sum of such numbers is made without a draw, and is one again. -/
theorem add_ok {x y : Nat} (hx : pos32 x = true) (hy : pos32 y = true) : floatBits .add .f32 x y = some (fadd x y) ∧ pos32 (fadd x y) = true := by
  suffices h : ∃ d, (Ieee.single.read x).sum (Ieee.single.read y) = some d ∧ pos32 (Ieee.single.write d) = true by
    obtain ⟨d, h1, h2⟩ := h
    have h3 : Ieee.single.add x y = some (Ieee.single.write d) := by unfold Ieee.Format.add; rw [h1]; rfl
    have e1 : fadd x y = Ieee.single.write d := by unfold fadd; rw [h3]; rfl
    rw [e1]; exact ⟨h3, h2⟩
  unfold pos32 at hx hy
  cases hr : Ieee.single.read x with
  | nan s f => rw [hr] at hx; cases hx
  | infinity s =>
    rw [hr] at hx
    cases s
    · cases hq : Ieee.single.read y with
      | nan t f => rw [hq] at hy; cases hy
      | infinity t =>
        rw [hq] at hy
        cases t
        · exact ⟨.infinity false, rfl, by decide⟩
        · cases hy
      | number t n j => exact ⟨.infinity false, rfl, by decide⟩
    · cases hx
  | number s m e =>
    rw [hr] at hx
    cases s
    · cases hq : Ieee.single.read y with
      | nan t f => rw [hq] at hy; cases hy
      | infinity t =>
        rw [hq] at hy
        cases t
        · exact ⟨.infinity false, rfl, by decide⟩
        · cases hy
      | number t n j =>
        rw [hq] at hy
        cases t
        · refine ⟨_, rfl, ?_⟩
          have h1 := signed_nonneg m (e - min e j).toNat
          have h2 := signed_nonneg n (j - min e j).toNat
          have h3 : 0 ≤ Ieee.signed false m (e - min e j).toNat + Ieee.signed false n (j - min e j).toNat := Int.add_nonneg h1 h2
          generalize Ieee.signed false m (e - min e j).toNat + Ieee.signed false n (j - min e j).toNat = tot at h3 ⊢
          have hneg : (if tot = 0 then (false && false) else decide (tot < 0)) = false := by
            split
            · rfl
            · exact decide_eq_false (by omega)
          rw [hneg]
          exact pos_nearest _ _
        · cases hy
    · cases hx

/-- The sum of the first numbers of a row, beginning with 0. -/
def sumTo (f : Nat → Nat) (k : Nat) : Nat := (List.range k).foldl (fun s h => fadd s (f h)) 0
theorem sumTo_succ (f : Nat → Nat) (k : Nat) : sumTo f (k + 1) = fadd (sumTo f k) (f k) := by
  simp [sumTo, List.range_succ]
theorem sumTo_pos (f : Nat → Nat) (n : Nat) (hf : ∀ k, k < n → pos32 (f k) = true) : ∀ k, k ≤ n → pos32 (sumTo f k) = true
  | 0, _ => by show pos32 0 = true; decide
  | k + 1, h => by rw [sumTo_succ]; exact (add_ok (sumTo_pos f n hf k (by omega)) (hf k (by omega))).2

theorem sineB_pos_nat : ∀ n : Nat, n < 65 → pos32 (sineB (n : Int)) = true := by decide +kernel
theorem groundB_pos (x : Int) (h : x ≤ 64) : pos32 (groundB x) = true := by
  unfold groundB
  split
  · rename_i h0
    obtain ⟨n, rfl⟩ := Int.eq_ofNat_of_zero_le (by omega : 0 ≤ x)
    exact sineB_pos_nat n (by omega)
  · decide

theorem litB_pos (l : Nat) : pos32 (litB l) = true := by
  unfold litB
  split
  · rename_i h
    have h' : (Ieee.single.read l).order (Ieee.single.read 0) = some .gt := h
    have hz : Ieee.single.read 0 = .number false 0 (-149) := by decide
    rw [hz] at h'
    unfold pos32
    cases hr : Ieee.single.read l with
    | nan s f => rw [hr] at h'; cases h'
    | infinity s => rw [hr] at h'; cases s <;> first | rfl | (simp [Ieee.Datum.order] at h')
    | number s m e =>
      rw [hr] at h'
      cases s
      · rfl
      · exfalso
        simp only [Ieee.Datum.order, Option.some.injEq] at h'
        have h1 : Ieee.signed true m (e - min e (-149)).toNat ≤ 0 := by
          unfold Ieee.signed
          rw [if_pos rfl]
          exact Int.neg_nonpos_of_nonneg (Int.natCast_nonneg _)
        have h2 : Ieee.signed false 0 ((-149 : Int) - min e (-149)).toNat = 0 := by simp [Ieee.signed]
        rw [h2] at h'
        have := Int.compare_eq_gt.1 h'
        omega
  · decide
theorem fallB_pos (x d : Int) : pos32 (fallB x d) = true := by
  unfold fallB
  split
  · exact litB_pos _
  · decide

end Go.Proofs.YtmniodfdoidffaaGreatDoor

namespace Go.Proofs.YtmniodfdoidffaaGreatDoor
open Go

theorem word_true (k : Nat) : Ieee.single.word true k = 2147483648 + Ieee.single.word false k := by
  unfold Ieee.Format.word
  have hw : Ieee.single.signWeight = 2147483648 := by decide
  simp [hw]
theorem nearest_true (m : Nat) (e : Int) : Ieee.single.nearest true m e = 2147483648 + Ieee.single.nearest false m e := by
  unfold Ieee.Format.nearest
  split
  · exact word_true _
  · exact word_true _
theorem cosB_pos_nat : ∀ n : Nat, n < 65 → cosB (n : Int) ≤ 1065353216 := by decide +kernel
theorem sineB_sgn_nat : ∀ n : Nat, n < 256 → sineB (n : Int) ≤ 1065353216 ∨ (2147483648 ≤ sineB (n : Int) ∧ sineB (n : Int) ≤ 2147483648 + 1065353216) := by decide +kernel
theorem cosB_sgn (a : Int) : cosB a ≤ 1065353216 ∨ (2147483648 ≤ cosB a ∧ cosB a ≤ 2147483648 + 1065353216) := by
  unfold cosB
  have h0 := angB_lo (a + 64)
  have h1 := angB_hi (a + 64)
  generalize angB (a + 64) = n at *
  obtain ⟨m, rfl⟩ := Int.eq_ofNat_of_zero_le h0
  exact sineB_sgn_nat m (by omega)
theorem read_neg_same {x : Nat} (hx : x < 2139095040) {m : Nat} {e : Int} (h : Ieee.single.read x = .number false m e) : Ieee.single.read (2147483648 + x) = .number true m e := by
  unfold Ieee.Format.read at h ⊢
  have hw : Ieee.single.signWeight = 2147483648 := by decide
  have hbi : Ieee.single.binade = 8388608 := by decide
  have hir : Ieee.single.infRung = 2139095040 := by decide
  simp only [hw, hbi, hir] at h ⊢
  have e1 : x % 2147483648 = x := Nat.mod_eq_of_lt (by omega)
  have e2 : (2147483648 + x) % 2147483648 = x := by omega
  rw [e1] at h
  rw [e2]
  have e3 : ¬ (2147483648 ≤ x) := by omega
  have e4 : 2147483648 ≤ 2147483648 + x := by omega
  by_cases h1 : x < 8388608
  · simp_all
    omega
  · have h2 : x < 2139095040 := hx
    simp_all
    rw [if_neg (by omega)]
    have h5 : (x / 2147483648 + 1) % 2 = 1 := by omega
    rw [h5]
    rfl
theorem fall_num (x d : Int) (h0 : 0 < x) (h1 : x ≤ 64) : num32 (fallB x d) = true := by
  unfold fallB
  rw [if_pos h0]
  have hl : num32 (fmul (cosB x) (cosB d)) = true := by
    obtain ⟨n, rfl⟩ := Int.eq_ofNat_of_zero_le (by omega : 0 ≤ x)
    have ha := cosB_pos_nat n (by omega)
    generalize cosB (n : Int) = a at *
    rcases cosB_sgn d with hb | ⟨hb0, hb1⟩
    · exact num_of_isNum (.inl (Nat.lt_of_le_of_lt (mul_le_one (x := a) (y := cosB d) (by omega) hb) (by omega)))
    · obtain ⟨b, hb⟩ : ∃ b, cosB d = 2147483648 + b := ⟨cosB d - 2147483648, by omega⟩
      rw [hb]
      have hbl : b ≤ 1065353216 := by omega
      obtain ⟨m, i, hm, _⟩ := read_pos (x := a) (by omega)
      obtain ⟨k, j, hk, _⟩ := read_pos (x := b) (by omega)
      have hk' := read_neg_same (x := b) (by omega) hk
      have e1 : fmul a b = Ieee.single.write (.number (false ^^ false) (m * k) (-149 + (i : Int) + (-149 + (j : Int)))) := by
        have h : Ieee.single.mul a b = some (Ieee.single.write (.number (false ^^ false) (m * k) (-149 + (i : Int) + (-149 + (j : Int))))) := by
          unfold Ieee.Format.mul
          rw [hm, hk]; rfl
        unfold fmul; rw [h]; rfl
      have e2 : fmul a (2147483648 + b) = Ieee.single.write (.number (false ^^ true) (m * k) (-149 + (i : Int) + (-149 + (j : Int)))) := by
        have h : Ieee.single.mul a (2147483648 + b) = some (Ieee.single.write (.number (false ^^ true) (m * k) (-149 + (i : Int) + (-149 + (j : Int))))) := by
          unfold Ieee.Format.mul
          rw [hm, hk']; rfl
        unfold fmul; rw [h]; rfl
      have e3 : fmul a (2147483648 + b) = 2147483648 + fmul a b := by
        rw [e1, e2]
        exact nearest_true _ _
      have h2 := mul_le_one (x := a) (y := b) (by omega) hbl
      rw [e3]
      exact num_of_isNum (.inr ⟨by omega, by omega⟩)
  unfold litB
  split
  · exact hl
  · decide

theorem fmul_zero {a : Nat} (ha : a < 2139095040) : fmul a 0 = 0 := rnd_exact (mul_rnd ha (y := 0) (by decide)).2 (by decide) (Nat.two_pow_pos _) (by rw [rv_zero]; simp)
theorem zero_fmul {a : Nat} (ha : a < 2139095040) : fmul 0 a = 0 := rnd_exact (mul_rnd (x := 0) (by decide) ha).2 (by decide) (Nat.two_pow_pos _) (by rw [rv_zero]; simp)
theorem mul_negR {a b : Nat} (ha : a < 2139095040) (hb : b < 2139095040) : fmul a (2147483648 + b) = 2147483648 + fmul a b := by
  obtain ⟨m, i, hm, _⟩ := read_pos (x := a) ha
  obtain ⟨k, j, hk, _⟩ := read_pos (x := b) hb
  have hk' := read_neg_same (x := b) hb hk
  have e1 : fmul a b = Ieee.single.write (.number (false ^^ false) (m * k) (-149 + (i : Int) + (-149 + (j : Int)))) := by
    have h : Ieee.single.mul a b = some (Ieee.single.write (.number (false ^^ false) (m * k) (-149 + (i : Int) + (-149 + (j : Int))))) := by
      unfold Ieee.Format.mul
      rw [hm, hk]; rfl
    unfold fmul; rw [h]; rfl
  have e2 : fmul a (2147483648 + b) = Ieee.single.write (.number (false ^^ true) (m * k) (-149 + (i : Int) + (-149 + (j : Int)))) := by
    have h : Ieee.single.mul a (2147483648 + b) = some (Ieee.single.write (.number (false ^^ true) (m * k) (-149 + (i : Int) + (-149 + (j : Int))))) := by
      unfold Ieee.Format.mul
      rw [hm, hk']; rfl
    unfold fmul; rw [h]; rfl
  rw [e1, e2]
  exact nearest_true _ _

theorem litB_word {p : Nat} (h0 : 0 < p) (h1 : p < 2139095040) : litB p = p := by
  unfold litB
  rw [order_pos h1 (by decide), if_pos]
  rw [Nat.compare_eq_gt.2 h0]
theorem litB_zero : litB 0 = 0 := by decide +kernel
theorem litB_under {r : Nat} (h : r < 2139095040) : litB (2147483648 + r) = 0 := by
  unfold litB
  rw [order_num (.inr ⟨by omega, by omega⟩) (.inl (by decide)), if_neg]
  intro h1
  injection h1 with h1
  have h2 := Int.compare_eq_gt.1 h1
  have h3 := sv_neg_le r
  have h4 : sv 0 = 0 := rfl
  omega

theorem sine_step_nat : ∀ n : Nat, n < 256 → sineB (n : Int) = 0 ∨ (1019794704 ≤ sineB (n : Int) ∧ sineB (n : Int) ≤ 1065353216) ∨ (2147483648 ≤ sineB (n : Int) ∧ sineB (n : Int) ≤ 2147483648 + 1065353216) := by decide +kernel
theorem cos_step (a : Int) : cosB a = 0 ∨ (1019794704 ≤ cosB a ∧ cosB a ≤ 1065353216) ∨ (2147483648 ≤ cosB a ∧ cosB a ≤ 2147483648 + 1065353216) := by
  unfold cosB
  have h0 := angB_lo (a + 64)
  have h1 := angB_hi (a + 64)
  generalize angB (a + 64) = n at *
  obtain ⟨m, rfl⟩ := Int.eq_ofNat_of_zero_le h0
  exact sine_step_nat m (by omega)
theorem least_light : fmul 1019794704 1019794704 = 975015322 := by decide +kernel

/-- Light on a window is 0, or not next to it, and at most 1. -/
theorem fall_rng (x d : Int) (h0 : 0 < x) (h1 : x ≤ 64) : fallB x d = 0 ∨ (975015322 ≤ fallB x d ∧ fallB x d ≤ 1065353216) := by
  unfold fallB
  rw [if_pos h0]
  have ha := cos_step x
  have hc : cosB x ≤ 1065353216 := by
    obtain ⟨n, rfl⟩ := Int.eq_ofNat_of_zero_le (by omega : 0 ≤ x)
    exact cosB_pos_nat n (by omega)
  have hb := cos_step d
  generalize cosB x = a at *
  generalize cosB d = b at *
  rcases hb with rfl | ⟨b0, b1⟩ | ⟨b0, b1⟩
  · rw [fmul_zero (by omega), litB_zero]; exact .inl rfl
  · rcases ha with rfl | ⟨a0, a1⟩ | ⟨a0, a1⟩
    · rw [zero_fmul (by omega), litB_zero]; exact .inl rfl
    · have m1 := mul_mono (x := 1019794704) (X := a) (y := 1019794704) (Y := b) (by omega) (by omega) a0 b0
      have m2 := mul_le_one (x := a) (y := b) (by omega) b1
      rw [least_light] at m1
      rw [litB_word (by omega) (by omega)]
      exact .inr ⟨m1, by omega⟩
    · omega
  · obtain ⟨c, rfl⟩ : ∃ c, b = 2147483648 + c := ⟨b - 2147483648, by omega⟩
    have m2 := mul_le_one (x := a) (y := c) (by omega) (by omega)
    rw [mul_negR (by omega) (by omega), litB_under (by omega)]
    exact .inl rfl

theorem pos_of_lt {x : Nat} (h : x < 2139095040) : pos32 x = true := by
  obtain ⟨m, i, hr, _⟩ := read_pos h
  unfold pos32
  rw [hr]; rfl

end Go.Proofs.YtmniodfdoidffaaGreatDoor

namespace Go.Proofs.YtmniodfdoidffaaGreatDoor
open Go

/-- How far the shade reaches, what that is of the window, and what is shaded. -/
def ratB (x : Int) (f : Nat) : Nat := fdiv (sineB x) f
def depB (o dr : Nat) (x : Int) (f : Nat) : Nat := fadd (fmul o (ratB x f)) dr
def quoA (o dr gp tl : Nat) (x : Int) (f : Nat) : Nat := fdiv (fsub (depB o dr x f) gp) tl
def cutB (q : Nat) : Nat := if FloatKind.f32.format.order q 0 = some .gt then (if FloatKind.f32.format.order q 1065353216 = some .gt then 1065353216 else q) else 0
def shB (o dr gp tl : Nat) (x : Int) (f : Nat) : Nat := if f = 0 then 0 else cutB (quoA o dr gp tl x f)
/-- The light behind an awning. -/
def behB (f p : Nat) : Nat := fsub f (fmul f p)

theorem neg0_add {x : Nat} (hx : x < 2139095040) : floatBits .add .f32 2147483648 x = some x := by
  obtain ⟨m, i, hr, hm⟩ := read_pos hx
  have hz : Ieee.single.read 2147483648 = .number true 0 (-149) := by decide +kernel
  show Ieee.single.add 2147483648 x = _
  unfold Ieee.Format.add
  rw [hr, hz]
  have e0 : min (-149) (-149 + (i : Int)) = -149 := by omega
  have e2 : (-149 + (i : Int) - (-149 : Int)).toNat = i := by omega
  have e4 : Ieee.signed true 0 (-149 - (-149 : Int)).toNat = 0 := by decide
  simp only [Ieee.Datum.sum, Option.map_some, Ieee.Format.write, e0, e2, e4, signed_false, Int.zero_add, Int.natAbs_natCast]
  have e5 : (if ((m * 2 ^ i : Nat) : Int) = 0 then (true && false) else decide (((m * 2 ^ i : Nat) : Int) < 0)) = false := by
    split
    · rfl
    · exact decide_eq_false (by omega)
  rw [e5]
  have hR := nearest_rnd (m * 2 ^ i) (-149) 0 0 (by omega)
  rw [hm] at hR ⊢
  rw [rnd_exact hR (r := x) (by omega) (by decide) rfl]

/-- A sum of two numbers that are not less than 0, or -0. -/
theorem addz {x y X Y : Nat} (hX : X < 2139095040) (hY : Y < 2139095040) (hx : x ≤ X ∨ x = 2147483648) (hy : y ≤ Y ∨ y = 2147483648) :
    floatBits .add .f32 x y = some (fadd x y) ∧ (fadd x y ≤ fadd X Y ∨ fadd x y = 2147483648) := by
  rcases hx with hx | rfl
  · rcases hy with hy | rfl
    · exact ⟨(add_rnd (by omega) (by omega)).1, .inl (add_mono hX hY hx hy)⟩
    · have h := add_neg0 (x := x) (by omega)
      rw [fadd_get h]
      refine ⟨h, .inl ?_⟩
      have m := add_mono (x := x) (X := X) (y := 0) (Y := Y) hX hY hx (Nat.zero_le _)
      have e : fadd x 0 = x := rnd_exact (add_rnd (x := x) (y := 0) (by omega) (by decide)).2 (by omega) (by decide) (by rw [rv_zero]; omega)
      omega
  · rcases hy with hy | rfl
    · have h := neg0_add (x := y) (by omega)
      rw [fadd_get h]
      refine ⟨h, .inl ?_⟩
      have m := add_mono (x := 0) (X := X) (y := y) (Y := Y) hX hY (Nat.zero_le _) hy
      have e : fadd 0 y = y := rnd_exact (add_rnd (x := 0) (y := y) (by decide) (by omega)).2 (by omega) (by decide) (by rw [rv_zero]; omega)
      omega
    · have h : floatBits .add .f32 2147483648 2147483648 = some 2147483648 := by decide +kernel
      rw [fadd_get h]
      exact ⟨h, .inr rfl⟩

theorem div_ok {x y : Nat} (hx : num32 x = true) (hy0 : 0 < y) (hy : y < 2139095040) : floatBits .quo .f32 x y = some (fdiv x y) ∧ fin32 (fdiv x y) = true := by
  obtain ⟨s, m, e, hr⟩ := num32_get hx
  obtain ⟨n, j, hq, hn⟩ := read_pos hy
  have hn0 : n ≠ 0 := by
    intro h; rw [h, Nat.zero_mul] at hn; have := rv_pos hy0; omega
  have h : ∃ d : Ieee.Datum, d.isNaN = false ∧ Ieee.single.div x y = some (Ieee.single.write d) := by
    unfold Ieee.Format.div
    rw [hr, hq]
    simp only [Ieee.Datum.quotient, if_neg hn0, Option.map_some]
    exact ⟨_, rfl, rfl⟩
  obtain ⟨d, hd, h⟩ := h
  have e1 : fdiv x y = Ieee.single.write d := by unfold fdiv; rw [h]; rfl
  rw [e1]
  exact ⟨h, write_fin _ hd⟩

theorem sine_high_nat : ∀ n : Nat, n < 65 → sineB (n : Int) ≤ 1065353216 := by decide +kernel

theorem sv_small {x B : Nat} (h : x ≤ B ∨ x = 2147483648) (hB : B < 2147483648) : (sv x).natAbs ≤ rv B := by
  rcases h with h | rfl
  · rw [sv_pos (by omega)]
    have := rv_le h
    omega
  · have : sv 2147483648 = 0 := by decide +kernel
    rw [this]; exact Nat.zero_le _
theorem isNum_small {x B : Nat} (h : x ≤ B ∨ x = 2147483648) (hB : B < 2139095040) : isNum x := by
  rcases h with h | rfl
  · exact .inl (by omega)
  · exact .inr ⟨by decide, by decide⟩

theorem shade_facts {o dr gp tl : Nat} (ho : o ≤ 1090519040 ∨ o = 2147483648) (hd : dr ≤ 1073741824 ∨ dr = 2147483648) (hg : gp ≤ 1073741824 ∨ gp = 2147483648) (t0 : 1040187392 ≤ tl) (t1 : tl ≤ 1082130432)
    {x : Int} (x0 : 0 < x) (x1 : x ≤ 64) {f : Nat} (f0 : 975015322 ≤ f) (f1 : f ≤ 1065353216) :
    floatBits .quo .f32 (sineB x) f = some (ratB x f) ∧ floatBits .mul .f32 o (ratB x f) = some (fmul o (ratB x f)) ∧ floatBits .add .f32 (fmul o (ratB x f)) dr = some (depB o dr x f) ∧
    floatBits .sub .f32 (depB o dr x f) gp = some (fsub (depB o dr x f) gp) ∧ floatBits .quo .f32 (fsub (depB o dr x f) gp) tl = some (quoA o dr gp tl x f) ∧ fin32 (quoA o dr gp tl x f) = true := by
  have hs : sineB x ≤ 1065353216 := by
    obtain ⟨n, rfl⟩ := Int.eq_ofNat_of_zero_le (by omega : 0 ≤ x)
    exact sine_high_nat n (by omega)
  have r1 := div_rnd (x := sineB x) (y := f) (by omega) (by omega) (by omega)
  have r2 := div_mono (x := sineB x) (X := 1065353216) (y := f) (Y := 975015322) (by decide) (by omega) (by decide) hs f0
  have e1 : fdiv 1065353216 975015322 = 1154480907 := by decide +kernel
  rw [e1] at r2
  have hp : floatBits .mul .f32 o (ratB x f) = some (fmul o (ratB x f)) ∧ (fmul o (ratB x f) ≤ 1179646731 ∨ fmul o (ratB x f) = 2147483648) := by
    have hr : ratB x f ≤ 1154480907 := r2
    rcases ho with ho | rfl
    · have m := mul_mono (x := o) (X := 1090519040) (y := ratB x f) (Y := 1154480907) (by decide) (by decide) ho hr
      have e2 : fmul 1090519040 1154480907 = 1179646731 := by decide +kernel
      rw [e2] at m
      exact ⟨(mul_rnd (by omega) (by omega)).1, .inl m⟩
    · have h := (mul_neg0 (x := ratB x f) (by omega)).2
      rw [fmul_get h]
      exact ⟨h, .inr rfl⟩
  have ha := addz (X := 1179646731) (Y := 1073741824) (by decide) (by decide) hp.2 hd
  have e3 : fadd 1179646731 1073741824 = 1179648779 := by decide +kernel
  rw [e3] at ha
  have hdep : depB o dr x f ≤ 1179648779 ∨ depB o dr x f = 2147483648 := ha.2
  have hg' : gp ≤ 1179648779 ∨ gp = 2147483648 := hg.imp (fun h => by omega) id
  have hsub := sub_num (x := depB o dr x f) (y := gp) (B := 1179648779) (C := 1188037387) (isNum_small hdep (by decide)) (isNum_small hg' (by decide)) (sv_small hdep (by decide)) (sv_small hg' (by decide)) (by decide +kernel) (by decide)
  have hq := div_ok (x := fsub (depB o dr x f) gp) (y := tl) (num_of_isNum hsub.2) (by omega) (by omega)
  exact ⟨r1.1, hp.1, ha.1, hsub.1, hq.1, hq.2⟩

theorem cutB_le {q : Nat} (hq : q < 4294967296) : cutB q ≤ 1065353216 := by
  unfold cutB
  by_cases h0 : FloatKind.f32.format.order q 0 = some .gt
  · rw [if_pos h0]
    by_cases h1 : FloatKind.f32.format.order q 1065353216 = some .gt
    · rw [if_pos h1]; exact Nat.le_refl _
    · rw [if_neg h1]
      rcases word_cases q hq with c | c | c | c
      · rw [order_num c (.inl (by decide))] at h0 h1
        injection h0 with h0
        have k0 := Int.compare_eq_gt.1 h0
        have k1 : ¬ (sv q > sv 1065353216) := fun h => h1 (by rw [Int.compare_eq_gt.2 h])
        have e0 : sv 0 = 0 := rfl
        rw [e0] at k0
        rw [sv_pos (x := 1065353216) (by decide)] at k1
        rcases c with c | ⟨c0, c1⟩
        · rw [sv_pos (x := q) (by omega)] at k1
          rw [← rv_le_iff]
          omega
        · obtain ⟨r, rfl⟩ : ∃ r, q = 2147483648 + r := ⟨q - 2147483648, by omega⟩
          have := sv_neg_le r
          omega
      · subst c
        exact absurd (inf_order 1065353216 (.inl (by decide))).1 h1
      · subst c
        rw [(inf_order 0 (.inl (by decide))).2] at h0
        cases h0
      · rw [nan_order c] at h0
        cases h0
  · rw [if_neg h0]; decide

theorem quoA_lt {o dr gp tl : Nat} {x : Int} {f : Nat} (h : floatBits .quo .f32 (fsub (depB o dr x f) gp) tl = some (quoA o dr gp tl x f)) : quoA o dr gp tl x f < 4294967296 := by
  have := floatBits_wf h
  simpa [Lit.wf] using this

theorem beh_facts {f p : Nat} (f1 : f ≤ 1065353216) (p1 : p ≤ 1065353216) :
    floatBits .mul .f32 f p = some (fmul f p) ∧ floatBits .sub .f32 f (fmul f p) = some (behB f p) ∧ behB f p ≤ f := by
  have m := mul_le_one (x := f) (y := p) (by omega) p1
  refine ⟨(mul_rnd (by omega) (by omega)).1, (sub_rnd (by omega) m).1, ?_⟩
  exact rnd_le (sub_rnd (x := f) (y := fmul f p) (by omega) m).2 (by decide) (by omega)

end Go.Proofs.YtmniodfdoidffaaGreatDoor

namespace Go.Proofs.YtmniodfdoidffaaGreatDoor
open Go.ChangeShapes Go.WideShapes Go.ChangeAt Go.RowKit

end Go.Proofs.YtmniodfdoidffaaGreatDoor

namespace Go.Proofs.YtmniodfdoidffaaGreatDoor
open Go.RowKit

def inH (n : Int) : Bool := inB n 0 23

def inF (n : Int) : Bool := inB n 0 255

set_option maxHeartbeats 400000 in
theorem isFacing_any (n : Int) (w : World) :
    Calls Tryz.prog 21 #[.int .i64 n] w fun e w' => e = .returned (.bool (inF n)) ∧ w = w' := by
  have e : inF n = (decide (0 ≤ n) && decide (n < 256)) := by
    unfold inF inB
    congr 1
    rw [Bool.eq_iff_iff, decide_eq_true_iff, decide_eq_true_iff]; omega
  rw [e]
  clear e
  by_cases h1 : 0 ≤ n
  · have h1' : decide (0 ≤ n) = true := decide_eq_true h1
    go_enter Tryz.func21, Tryz.ntmps21
    go_wp2
    go_ret
    rw [h1', Bool.true_and]
    exact ⟨rfl, rfl⟩
  · have h1' : decide (0 ≤ n) = false := decide_eq_false h1
    go_enter Tryz.func21, Tryz.ntmps21
    go_wp2
    go_ret
    exact ⟨rfl, rfl⟩

/-- The code of a sun, and of what is asked of numbers. -/
def codeB (ok fine : Bool) : Int := if ok then (if fine then 0 else 2) else 1

set_option maxRecDepth 100000 in
set_option maxHeartbeats 1000000 in
theorem checkSun_any (hs ts : List Int) (hh : hs.length = 24) (ht : ts.length = 24) (fine : Bool) (w : World) :
    Calls Tryz.prog 53 #[.agg (sunC hs ts), .bool fine] w fun e w' => e = .returned (.int .i64 (codeB (okB hs ts) fine)) ∧ Below w.heap.size w w' := by
  have Hh := Lib.hid hh
  have Ht := Lib.hid ht
  clear hh ht
  generalize hok : okB hs ts = ok
  have Hok := Lib.hid hok
  clear hok
  cases ok <;> cases fine
  all_goals
    go_enter Tryz.func53, Tryz.ntmps53
    go_upto_region 1 with (fail)
    refine abs_code (fun W => Below w.heap.size w W ∧ W.heap[w.heap.size]? = some (.cells (sunC hs ts) 35 (0, 0))) ⟨(Below.refl _ _).alloc (Nat.le_refl _) _, heap_alloc_new _ _⟩ ?_
    rintro W ⟨hb, h0⟩
    have H0 := Lib.hid h0
    clear h0
    go_wp2_with (first | (refine wpList_load_part rfl 35 _ rfl w.heap.size 0 48 rfl 35 (sunC hs ts) (0, 0) _ H0.out Tryz.underlying35 rfl info_sun (sun_fits _ _ Hh.out Ht.out) (sunC hs ts) (sun_all _ _ Hh.out Ht.out) ?_) | (go_at_call 69; refine (ValidSun_any hs ts Hh.out Ht.out _).mono ?_; rw [Hok.out]; rintro e W1 ⟨rfl, hb1⟩; replace H0 := Lib.hid (below_row hb1 H0.out); replace hb := hb.trans (hb1.mono hb.size); clear hb1))
    go_ret
    exact ⟨rfl, hb⟩

/-- The height at an hour; the turn at an hour. -/
def atH (xs : List Int) (hour : Int) : Int := xs[hour.toNat]?.getD 0

set_option maxRecDepth 100000 in
set_option maxHeartbeats 400000 in
theorem upAt_any (hs ts : List Int) (hh : hs.length = 24) (hour : Int) (h0 : 0 ≤ hour) (h1 : hour < 24) (w : World) :
    Calls Tryz.prog 80 #[.agg (sunC hs ts), .int .i64 hour] w fun e w' => e = .returned (.bool (decide (0 < atH hs hour))) ∧ Below w.heap.size w w' := by
  obtain ⟨k, rfl⟩ := Int.eq_ofNat_of_zero_le h0
  have hk : k < 24 := by omega
  have hc := cell_sun_h (heap_alloc_new w (.cells (sunC hs ts) 35)) hh k hk
  have ea : atH hs (k : Int) = hs[k]?.getD 0 := by unfold atH; rw [Int.toNat_natCast]
  rw [ea]
  generalize hs[k]?.getD 0 = x at *
  clear ea hh
  go_enter Tryz.func80, Tryz.ntmps80
  go_wp2
  go_ret
  exact ⟨rfl, (Below.refl _ _).alloc (Nat.le_refl _) _⟩

end Go.Proofs.YtmniodfdoidffaaGreatDoor

namespace Go.Proofs.YtmniodfdoidffaaGreatDoor
open Go.ChangeShapes Go.WideShapes Go.ChangeAt Go.RowKit





theorem checkSun_is (hs ts : List Int) (hh : hs.length = 24) (ht : ts.length = 24) (fine : Bool) (c : Int) (h : codeB (okB hs ts) fine = c) (w : World) :
    Calls Tryz.prog 53 #[.agg (sunC hs ts), .bool fine] w fun e w' => e = .returned (.int .i64 c) ∧ Below w.heap.size w w' := by
  subst h; exact checkSun_any hs ts hh ht fine w



theorem inH_bd {n : Int} (h : inH n = true) : 0 ≤ n ∧ n < 24 := by
  have := inB_true h; omega

theorem codeB_ne {ok fine : Bool} (h : ¬ (ok = true ∧ fine = true)) : codeB ok fine ≠ 0 := by
  cases ok <;> cases fine <;> simp_all [codeB]

/-- What is asked of a sun and of other arguments is all right, or the code tells what is not. -/
def upV (hs ts : List Int) (hour : Int) : Bool := okB hs ts && inH hour && decide (0 < atH hs hour)

end Go.Proofs.YtmniodfdoidffaaGreatDoor

namespace Go.Proofs.YtmniodfdoidffaaGreatDoor
open Go.RowKit

theorem qfacts (a : Int) (h0 : 0 ≤ a) (h1 : a ≤ 64) :
    floatBits .quo .f32 (floatOfInt .f32 a) 1115684864 = some (qx a) ∧ floatBits .mul .f32 (qx a) (qx a) = some (qy a)
    ∧ floatBits .mul .f32 (qy a) 1033109504 = some (qyk a) ∧ floatBits .sub .f32 1059356672 (qyk a) = some (qp a)
    ∧ floatBits .mul .f32 (qy a) (qp a) = some (qyp a) ∧ floatBits .sub .f32 1070137344 (qyp a) = some (qq a)
    ∧ floatBits .mul .f32 (qx a) (qq a) = some (qs a) ∧ floatBits .sub .f32 0 (qs a) = some (qn a) := by
  have h := qOk_all a h0 h1
  simpa [qOk, Bool.and_eq_true, and_assoc] using h

set_option maxHeartbeats 400000 in
theorem firstSine_any (a : Int) (h0 : 0 ≤ a) (h1 : a ≤ 64) (w : World) :
    Calls Tryz.prog 98 #[.int .i16 a] w fun e w' => e = .returned (.float .f32 (qs a)) ∧ w = w' := by
  obtain ⟨e1, e2, e3, e4, e5, e6, e7, _⟩ := qfacts a h0 h1
  have r1 : ∀ t w, (binOp .quo t (.float .f32 (floatOfInt .f32 a)) (.float .f32 1115684864)).run Tryz.prog w = .ok (.float .f32 (qx a)) w := fun t w => run_float_arith w .quo t .f32 _ _ _ e1
  have r2 : ∀ t w, (binOp .mul t (.float .f32 (qx a)) (.float .f32 (qx a))).run Tryz.prog w = .ok (.float .f32 (qy a)) w := fun t w => run_float_arith w .mul t .f32 _ _ _ e2
  have r3 : ∀ t w, (binOp .mul t (.float .f32 (qy a)) (.float .f32 1033109504)).run Tryz.prog w = .ok (.float .f32 (qyk a)) w := fun t w => run_float_arith w .mul t .f32 _ _ _ e3
  have r4 : ∀ t w, (binOp .sub t (.float .f32 1059356672) (.float .f32 (qyk a))).run Tryz.prog w = .ok (.float .f32 (qp a)) w := fun t w => run_float_arith w .sub t .f32 _ _ _ e4
  have r5 : ∀ t w, (binOp .mul t (.float .f32 (qy a)) (.float .f32 (qp a))).run Tryz.prog w = .ok (.float .f32 (qyp a)) w := fun t w => run_float_arith w .mul t .f32 _ _ _ e5
  have r6 : ∀ t w, (binOp .sub t (.float .f32 1070137344) (.float .f32 (qyp a))).run Tryz.prog w = .ok (.float .f32 (qq a)) w := fun t w => run_float_arith w .sub t .f32 _ _ _ e6
  have r7 : ∀ t w, (binOp .mul t (.float .f32 (qx a)) (.float .f32 (qq a))).run Tryz.prog w = .ok (.float .f32 (qs a)) w := fun t w => run_float_arith w .mul t .f32 _ _ _ e7
  clear e1 e2 e3 e4 e5 e6 e7
  go_enter Tryz.func98, Tryz.ntmps98
  go_wp2_with (simp only [r1, r2, r3, r4, r5, r6, r7])
  go_ret
  exact ⟨rfl, rfl⟩


set_option maxHeartbeats 400000 in
theorem secondSine_any (a : Int) (h0 : 64 ≤ a) (h1 : a ≤ 128) (w : World) :
    Calls Tryz.prog 99 #[.int .i16 a] w fun e w' => e = .returned (.float .f32 (qs (128 - a))) ∧ w = w' := by
  go_enter Tryz.func99, Tryz.ntmps99
  go_wp2_with (go_at_call 98; refine (firstSine_any _ (by omega) (by omega) _).mono ?_; rintro e w' ⟨rfl, rfl⟩)
  go_ret
  exact ⟨rfl, rfl⟩

set_option maxHeartbeats 400000 in
theorem thirdSine_any (a : Int) (h0 : 128 ≤ a) (h1 : a ≤ 192) (w : World) :
    Calls Tryz.prog 100 #[.int .i16 a] w fun e w' => e = .returned (.float .f32 (qn (a - 128))) ∧ w = w' := by
  obtain ⟨_, _, _, _, _, _, _, e8⟩ := qfacts (a - 128) (by omega) (by omega)
  have r8 : ∀ t w, (binOp .sub t (.float .f32 0) (.float .f32 (qs (a - 128)))).run Tryz.prog w = .ok (.float .f32 (qn (a - 128))) w := fun t w => run_float_arith w .sub t .f32 _ _ _ e8
  clear e8
  go_enter Tryz.func100, Tryz.ntmps100
  go_wp2_with (go_at_call 98; refine (firstSine_any _ (by omega) (by omega) _).mono ?_; rintro e w' ⟨rfl, rfl⟩)
  go_ret
  exact ⟨rfl, rfl⟩

set_option maxHeartbeats 400000 in
theorem fourthSine_any (a : Int) (h0 : 192 ≤ a) (h1 : a ≤ 255) (w : World) :
    Calls Tryz.prog 101 #[.int .i16 a] w fun e w' => e = .returned (.float .f32 (qn (256 - a))) ∧ w = w' := by
  obtain ⟨_, _, _, _, _, _, _, e8⟩ := qfacts (256 - a) (by omega) (by omega)
  have r8 : ∀ t w, (binOp .sub t (.float .f32 0) (.float .f32 (qs (256 - a)))).run Tryz.prog w = .ok (.float .f32 (qn (256 - a))) w := fun t w => run_float_arith w .sub t .f32 _ _ _ e8
  clear e8
  go_enter Tryz.func101, Tryz.ntmps101
  go_wp2_with (go_at_call 98; refine (firstSine_any _ (by omega) (by omega) _).mono ?_; rintro e w' ⟨rfl, rfl⟩)
  go_ret
  exact ⟨rfl, rfl⟩

theorem ret_int {k : IntKind} {a b : Int} (h : a = b) : Ending.returned (.int k a) = .returned (.int k b) := by rw [h]
theorem ret_f32 {a b : Nat} (h : a = b) : Ending.returned (.float .f32 a) = .returned (.float .f32 b) := by rw [h]

theorem tmod_ang (a : Int) : a.tmod 256 % 256 = angB a := by
  unfold angB
  have h3 : a = 256 * a.tdiv 256 + a.tmod 256 := (Int.mul_tdiv_add_tmod a 256).symm
  omega
theorem tmod_ang2 (a : Int) : (a.tmod 256 + 256) % 256 = angB a := by
  have h := tmod_ang a
  omega

theorem tmod_bd (a : Int) : -256 < a.tmod 256 ∧ a.tmod 256 < 256 :=
  ⟨Int.lt_tmod_of_pos a (b := 256) (by decide), Int.tmod_lt_of_pos a (b := 256) (by decide)⟩

set_option maxHeartbeats 400000 in
theorem angleOf_any (a : Int) (w : World) :
    Calls Tryz.prog 91 #[.int .i64 a] w fun e w' => e = .returned (.int .i16 (angB a)) ∧ w = w' := by
  obtain ⟨h1, h2⟩ := tmod_bd a
  have h3 := angB_lo a
  have h4 := angB_hi a
  go_enter Tryz.func91, Tryz.ntmps91
  go_wp2
  go_ret
  exact ⟨ret_int (tmod_ang a), rfl⟩

set_option maxHeartbeats 400000 in
theorem l01Angle_any (a : Int) (w : World) :
    Calls Tryz.prog 86 #[.int .i64 a] w fun e w' => e = .returned (.int .i64 (angB a)) ∧ w = w' := by
  obtain ⟨h1, h2⟩ := tmod_bd a
  go_enter Tryz.func86, Tryz.ntmps86
  go_wp2
  go_ret
  exact ⟨ret_int (tmod_ang2 a), rfl⟩

theorem i16_in (n : Int) (h0 : -32768 ≤ n) (h1 : n ≤ 32767) : IntKind.i16.wrap n = n := by
  simp [IntKind.wrap, IntKind.signed, IntKind.bits]
  omega
theorem quart (a k : Int) (h0 : 0 ≤ k) (h3 : k ≤ 3) (hl : 64 * k ≤ a) (hh : a < 64 * k + 64) : IntKind.i16.wrap (a.tdiv 64) = k := by
  have h : a.tdiv 64 = k := by
    rw [Int.tdiv_eq_ediv_of_nonneg (by omega)]; omega
  rw [h]; exact i16_in k (by omega) (by omega)

set_option maxHeartbeats 400000 in
theorem sine_q1 (a : Int) (h0 : 0 ≤ a) (h1 : a < 64) (w : World) :
    Calls Tryz.prog 97 #[.int .i16 a] w fun e w' => e = .returned (.float .f32 (qs a)) ∧ Below w.heap.size w w' := by
  have hq := quart a 0 (by omega) (by omega) (by omega) (by omega)
  go_enter Tryz.func97, Tryz.ntmps97
  go_wp2_with (go_at_call 98; refine (firstSine_any _ (by omega) (by omega) _).mono ?_; rintro e w' ⟨rfl, rfl⟩)
  go_ret
  exact ⟨rfl, (Below.refl _ _).alloc (Nat.le_refl _) _⟩

set_option maxHeartbeats 400000 in
theorem sine_q2 (a : Int) (h0 : 64 ≤ a) (h1 : a < 128) (w : World) :
    Calls Tryz.prog 97 #[.int .i16 a] w fun e w' => e = .returned (.float .f32 (qs (128 - a))) ∧ Below w.heap.size w w' := by
  have hq := quart a 1 (by omega) (by omega) (by omega) (by omega)
  go_enter Tryz.func97, Tryz.ntmps97
  go_wp2_with (go_at_call 99; refine (secondSine_any _ (by omega) (by omega) _).mono ?_; rintro e w' ⟨rfl, rfl⟩)
  go_ret
  exact ⟨rfl, (Below.refl _ _).alloc (Nat.le_refl _) _⟩

set_option maxHeartbeats 400000 in
theorem sine_q3 (a : Int) (h0 : 128 ≤ a) (h1 : a < 192) (w : World) :
    Calls Tryz.prog 97 #[.int .i16 a] w fun e w' => e = .returned (.float .f32 (qn (a - 128))) ∧ Below w.heap.size w w' := by
  have hq := quart a 2 (by omega) (by omega) (by omega) (by omega)
  go_enter Tryz.func97, Tryz.ntmps97
  go_wp2_with (go_at_call 100; refine (thirdSine_any _ (by omega) (by omega) _).mono ?_; rintro e w' ⟨rfl, rfl⟩)
  go_ret
  exact ⟨rfl, (Below.refl _ _).alloc (Nat.le_refl _) _⟩

set_option maxHeartbeats 400000 in
theorem sine_q4 (a : Int) (h0 : 192 ≤ a) (h1 : a < 256) (w : World) :
    Calls Tryz.prog 97 #[.int .i16 a] w fun e w' => e = .returned (.float .f32 (qn (256 - a))) ∧ Below w.heap.size w w' := by
  have hq := quart a 3 (by omega) (by omega) (by omega) (by omega)
  go_enter Tryz.func97, Tryz.ntmps97
  go_wp2_with (go_at_call 101; refine (fourthSine_any _ (by omega) (by omega) _).mono ?_; rintro e w' ⟨rfl, rfl⟩)
  go_ret
  exact ⟨rfl, (Below.refl _ _).alloc (Nat.le_refl _) _⟩


theorem qn_0 : qn 0 = qs 0 := by decide +kernel

theorem sine_any (a : Int) (h0 : 0 ≤ a) (h1 : a ≤ 255) (w : World) :
    Calls Tryz.prog 97 #[.int .i16 a] w fun e w' => e = .returned (.float .f32 (sineB a)) ∧ Below w.heap.size w w' := by
  have key : ∀ x, sineB a = x → (Calls Tryz.prog 97 #[.int .i16 a] w fun e w' => e = .returned (.float .f32 x) ∧ Below w.heap.size w w') → Calls Tryz.prog 97 #[.int .i16 a] w fun e w' => e = .returned (.float .f32 (sineB a)) ∧ Below w.heap.size w w' := by
    intro x hx h
    rw [hx]; exact h
  by_cases c1 : a < 64
  · exact key _ (by unfold sineB; rw [if_pos (by omega)]) (sine_q1 a h0 c1 w)
  by_cases c2 : a < 128
  · refine key _ ?_ (sine_q2 a (by omega) c2 w)
    unfold sineB
    by_cases e : a = 64
    · subst e; rfl
    · rw [if_neg (by omega), if_pos (by omega)]
  by_cases c3 : a < 192
  · refine key _ ?_ (sine_q3 a (by omega) c3 w)
    unfold sineB
    by_cases e : a = 128
    · subst e; rw [if_neg (by omega), if_pos (by omega)]; exact qn_0.symm
    · rw [if_neg (by omega), if_neg (by omega), if_pos (by omega)]
  · refine key _ ?_ (sine_q4 a (by omega) (by omega) w)
    unfold sineB
    by_cases e : a = 192
    · subst e; rfl
    · rw [if_neg (by omega), if_neg (by omega), if_neg (by omega)]

set_option maxHeartbeats 400000 in
theorem cosine_any (a : Int) (h0 : -32768 ≤ a) (h1 : a ≤ 32767) (w : World) :
    Calls Tryz.prog 92 #[.int .i16 a] w fun e w' => e = .returned (.float .f32 (cosB a)) ∧ Below w.heap.size w w' := by
  have hl := angB_lo (a + 64)
  have hh := angB_hi (a + 64)
  go_enter Tryz.func92, Tryz.ntmps92
  go_wp2_with (first | (go_at_call 91; refine (angleOf_any _ _).mono ?_; rintro e w' ⟨rfl, rfl⟩) | (go_at_call 97; refine (sine_any _ (by omega) (by omega) _).mono ?_; rintro e w1 ⟨rfl, hb⟩))
  go_ret
  exact ⟨rfl, hb⟩

set_option maxHeartbeats 400000 in
theorem SineOf_any (a : Int) (w : World) :
    Calls Tryz.prog 95 #[.int .i64 a] w fun e w' => e = .returned (.float .f32 (sineB (angB a))) ∧ Below w.heap.size w w' := by
  have hl := angB_lo a
  have hh := angB_hi a
  go_enter Tryz.func95, Tryz.ntmps95
  go_wp2_with (first | (go_at_call 91; refine (angleOf_any _ _).mono ?_; rintro e w' ⟨rfl, rfl⟩) | (go_at_call 97; refine (sine_any _ (by omega) (by omega) _).mono ?_; rintro e w1 ⟨rfl, hb⟩))
  go_ret
  exact ⟨rfl, hb⟩

theorem cosB_ang (a : Int) : cosB (angB a) = cosB a := by
  unfold cosB angB
  congr 1
  omega

set_option maxHeartbeats 400000 in
theorem CosineOf_any (a : Int) (w : World) :
    Calls Tryz.prog 93 #[.int .i64 a] w fun e w' => e = .returned (.float .f32 (cosB a)) ∧ Below w.heap.size w w' := by
  have hl := angB_lo a
  have hh := angB_hi a
  have H := Lib.hid (cosB_ang a)
  go_enter Tryz.func93, Tryz.ntmps93
  go_wp2_with (first | (go_at_call 91; refine (angleOf_any _ _).mono ?_; rintro e w' ⟨rfl, rfl⟩) | (go_at_call 92; refine (cosine_any _ (by omega) (by omega) _).mono ?_; rintro e w1 ⟨rfl, hb⟩))
  go_ret
  exact ⟨ret_f32 H.out, hb⟩

/-! ### The model's functions -/
set_option maxHeartbeats 400000 in
theorem l01Quarter_any (a : Int) (h0 : 0 ≤ a) (h1 : a ≤ 64) (w : World) :
    Calls Tryz.prog 96 #[.int .i64 a] w fun e w' => e = .returned (.float .f32 (qs a)) ∧ w = w' := by
  obtain ⟨e1, e2, e3, e4, e5, e6, e7, _⟩ := qfacts a h0 h1
  have r1 : ∀ t w, (binOp .quo t (.float .f32 (floatOfInt .f32 a)) (.float .f32 1115684864)).run Tryz.prog w = .ok (.float .f32 (qx a)) w := fun t w => run_float_arith w .quo t .f32 _ _ _ e1
  have r2 : ∀ t w, (binOp .mul t (.float .f32 (qx a)) (.float .f32 (qx a))).run Tryz.prog w = .ok (.float .f32 (qy a)) w := fun t w => run_float_arith w .mul t .f32 _ _ _ e2
  have r3 : ∀ t w, (binOp .mul t (.float .f32 (qy a)) (.float .f32 1033109504)).run Tryz.prog w = .ok (.float .f32 (qyk a)) w := fun t w => run_float_arith w .mul t .f32 _ _ _ e3
  have r4 : ∀ t w, (binOp .sub t (.float .f32 1059356672) (.float .f32 (qyk a))).run Tryz.prog w = .ok (.float .f32 (qp a)) w := fun t w => run_float_arith w .sub t .f32 _ _ _ e4
  have r5 : ∀ t w, (binOp .mul t (.float .f32 (qy a)) (.float .f32 (qp a))).run Tryz.prog w = .ok (.float .f32 (qyp a)) w := fun t w => run_float_arith w .mul t .f32 _ _ _ e5
  have r6 : ∀ t w, (binOp .sub t (.float .f32 1070137344) (.float .f32 (qyp a))).run Tryz.prog w = .ok (.float .f32 (qq a)) w := fun t w => run_float_arith w .sub t .f32 _ _ _ e6
  have r7 : ∀ t w, (binOp .mul t (.float .f32 (qx a)) (.float .f32 (qq a))).run Tryz.prog w = .ok (.float .f32 (qs a)) w := fun t w => run_float_arith w .mul t .f32 _ _ _ e7
  clear e1 e2 e3 e4 e5 e6 e7
  go_enter Tryz.func96, Tryz.ntmps96
  go_wp2
  go_ret
  exact ⟨rfl, rfl⟩

set_option maxHeartbeats 400000 in
theorem l01Sine_any (a : Int) (w : World) :
    Calls Tryz.prog 85 #[.int .i64 a] w fun e w' => e = .returned (.float .f32 (sineB (angB a))) ∧ w = w' := by
  have hl := angB_lo a
  have hh := angB_hi a
  have hs : ∀ x, (∀ t w, (binOp .sub t (.float .f32 0) (.float .f32 (qs x))).run Tryz.prog w = .ok (.float .f32 (qn x)) w) ∨ ¬ (0 ≤ x ∧ x ≤ 64) := by
    intro x
    by_cases h : 0 ≤ x ∧ x ≤ 64
    · obtain ⟨_, _, _, _, _, _, _, e8⟩ := qfacts x h.1 h.2
      exact .inl fun t w => run_float_arith w .sub t .f32 _ _ _ e8
    · exact .inr h
  generalize hn : angB a = n at *
  have H := Lib.hid hn
  clear hn
  unfold sineB
  by_cases c1 : n ≤ 64
  · rw [if_pos c1]
    clear hs
    go_enter Tryz.func85, Tryz.ntmps85
    go_wp2_with (first | (go_at_call 86; refine (l01Angle_any _ _).mono ?_; rintro e w' ⟨rfl, rfl⟩; rw [H.out]) | (go_at_call 96; refine (l01Quarter_any _ (by omega) (by omega) _).mono ?_; rintro e w1 ⟨rfl, rfl⟩))
    go_ret
    exact ⟨rfl, rfl⟩
  rw [if_neg c1]
  by_cases c2 : n ≤ 128
  · rw [if_pos c2]
    clear hs
    go_enter Tryz.func85, Tryz.ntmps85
    go_wp2_with (first | (go_at_call 86; refine (l01Angle_any _ _).mono ?_; rintro e w' ⟨rfl, rfl⟩; rw [H.out]) | (go_at_call 96; refine (l01Quarter_any _ (by omega) (by omega) _).mono ?_; rintro e w1 ⟨rfl, rfl⟩))
    go_ret
    exact ⟨rfl, rfl⟩
  rw [if_neg c2]
  by_cases c3 : n ≤ 192
  · rw [if_pos c3]
    have r := (hs (n - 128)).resolve_right (by omega)
    clear hs
    go_enter Tryz.func85, Tryz.ntmps85
    go_wp2_with (first | (go_at_call 86; refine (l01Angle_any _ _).mono ?_; rintro e w' ⟨rfl, rfl⟩; rw [H.out]) | (go_at_call 96; refine (l01Quarter_any _ (by omega) (by omega) _).mono ?_; rintro e w1 ⟨rfl, rfl⟩))
    go_ret
    exact ⟨rfl, rfl⟩
  · rw [if_neg c3]
    have r := (hs (256 - n)).resolve_right (by omega)
    clear hs
    go_enter Tryz.func85, Tryz.ntmps85
    go_wp2_with (first | (go_at_call 86; refine (l01Angle_any _ _).mono ?_; rintro e w' ⟨rfl, rfl⟩; rw [H.out]) | (go_at_call 96; refine (l01Quarter_any _ (by omega) (by omega) _).mono ?_; rintro e w1 ⟨rfl, rfl⟩))
    go_ret
    exact ⟨rfl, rfl⟩

theorem cos_ang2 (a : Int) : angB (angB a + 64) = angB (a + 64) := by unfold angB; omega

set_option maxHeartbeats 400000 in
theorem l01Cosine_any (a : Int) (w : World) :
    Calls Tryz.prog 66 #[.int .i64 a] w fun e w' => e = .returned (.float .f32 (cosB a)) ∧ w = w' := by
  have hl := angB_lo a
  have hh := angB_hi a
  have H := Lib.hid (cos_ang2 a)
  go_enter Tryz.func66, Tryz.ntmps66
  go_wp2_with (first | (go_at_call 86; refine (l01Angle_any _ _).mono ?_; rintro e w' ⟨rfl, rfl⟩) | (go_at_call 85; refine (l01Sine_any _ _).mono ?_; rintro e w1 ⟨rfl, rfl⟩))
  go_ret
  exact ⟨ret_f32 (by unfold cosB; rw [H.out]), rfl⟩

end Go.Proofs.YtmniodfdoidffaaGreatDoor

namespace Go.Proofs.YtmniodfdoidffaaGreatDoor
open Go.RowKit

theorem div_zero_pos : floatBits .quo .f64 4607182418800017408 0 = some 9218868437227405312 := by decide +kernel

theorem div_zero_neg : floatBits .quo .f64 4607182418800017408 9223372036854775808 = some 18442240474082181120 := by decide +kernel

set_option maxHeartbeats 400000 in
theorem same_zero_pos (w : World) :
    Calls Tryz.prog 12 #[.float .f64 0, .float .f64 0] w fun e w' => e = .returned (.bool true) ∧ w = w' := by
  have r : ∀ t w, (binOp .quo t (.float .f64 4607182418800017408) (.float .f64 0)).run Tryz.prog w = .ok (.float .f64 9218868437227405312) w := fun t w => run_float_arith w .quo t .f64 _ _ _ div_zero_pos
  have o1 : FloatKind.f64.format.order 0 0 = some .eq := by decide +kernel
  have o2 : FloatKind.f64.format.order 9218868437227405312 0 = some .gt := by decide +kernel
  go_enter Tryz.func12, Tryz.ntmps12
  go_wp2
  go_ret
  exact ⟨rfl, rfl⟩

set_option maxHeartbeats 400000 in
theorem same_zero_neg (w : World) :
    Calls Tryz.prog 12 #[.float .f64 9223372036854775808, .float .f64 9223372036854775808] w fun e w' => e = .returned (.bool true) ∧ w = w' := by
  have r : ∀ t w, (binOp .quo t (.float .f64 4607182418800017408) (.float .f64 9223372036854775808)).run Tryz.prog w = .ok (.float .f64 18442240474082181120) w := fun t w => run_float_arith w .quo t .f64 _ _ _ div_zero_neg
  have o1 : FloatKind.f64.format.order 9223372036854775808 0 = some .eq := by decide +kernel
  have o3 : FloatKind.f64.format.order 9223372036854775808 9223372036854775808 = some .eq := by decide +kernel
  have o2 : FloatKind.f64.format.order 18442240474082181120 0 = some .lt := by decide +kernel
  go_enter Tryz.func12, Tryz.ntmps12
  go_wp2
  go_ret
  exact ⟨rfl, rfl⟩

set_option maxHeartbeats 400000 in
theorem same_else (r : Nat) (hr : FloatKind.f64.format.order r r = some .eq) (h0 : (FloatKind.f64.format.order r 0 == some .eq) = false) (w : World) :
    Calls Tryz.prog 12 #[.float .f64 r, .float .f64 r] w fun e w' => e = .returned (.bool true) ∧ w = w' := by
  go_enter Tryz.func12, Tryz.ntmps12
  go_wp2
  go_ret
  exact ⟨rfl, rfl⟩

theorem same_fin (r : Nat) (hlt : r < 18446744073709551616) (hr : FloatKind.f64.format.order r r = some .eq) (w : World) :
    Calls Tryz.prog 12 #[.float .f64 r, .float .f64 r] w fun e w' => e = .returned (.bool true) ∧ w = w' := by
  by_cases h0 : FloatKind.f64.format.order r 0 = some .eq
  · rcases zero_of_order r hlt h0 with rfl | rfl
    · exact same_zero_pos w
    · exact same_zero_neg w
  · exact same_else r hr (beq_eq_false_iff_ne.2 h0) w

theorem same_wide (x : Nat) (h : fin32 x = true) (w : World) :
    Calls Tryz.prog 12 #[.float .f64 (wide x), .float .f64 (wide x)] w fun e w' => e = .returned (.bool true) ∧ w = w' := by
  obtain ⟨_, h1, h2⟩ := wide_ok x h
  exact same_fin _ h1 h2 w

theorem run_wide (x : Nat) (h : fin32 x = true) (w : World) : (convert 23 42 (.float .f32 x)).run Tryz.prog w = .ok (.float .f64 (wide x)) w :=
  run_convert_float_float w 23 42 .f32 .f64 x _ (by rw [Tryz.underlying23]; rfl) Tryz.underlying42 (wide_ok x h).1

theorem bcell {W w1 : World} (hb : Below W.heap.size W w1) : (∀ b o, b < W.heap.size → w1.cell? ⟨b, o, none⟩ = W.cell? ⟨b, o, none⟩) ∧ (∀ b o, b < W.heap.size → w1.frozen? ⟨b, o, none⟩ = W.frozen? ⟨b, o, none⟩) :=
  ⟨fun b o h => hb.cell (p := ⟨b, o, none⟩) h, fun b o h => hb.frozen (p := ⟨b, o, none⟩) h⟩

end Go.Proofs.YtmniodfdoidffaaGreatDoor

namespace Go.Proofs.YtmniodfdoidffaaGreatDoor
open Go.ChangeShapes Go.WideShapes Go.ChangeAt Go.RowKit

theorem okB_h {hs ts : List Int} (hh : hs.length = 24) (ht : ts.length = 24) (h : okB hs ts = true) (hour : Int) (h0 : 0 ≤ hour) (h1 : hour < 24) : -64 ≤ atH hs hour ∧ atH hs hour ≤ 64 :=
  inB_true ((okB_iff hs ts hh ht).1 h hour.toNat (by omega)).1

theorem okB_t {hs ts : List Int} (hh : hs.length = 24) (ht : ts.length = 24) (h : okB hs ts = true) (hour : Int) (h0 : 0 ≤ hour) (h1 : hour < 24) : 0 ≤ atH ts hour ∧ atH ts hour ≤ 255 :=
  inB_true ((okB_iff hs ts hh ht).1 h hour.toNat (by omega)).2

end Go.Proofs.YtmniodfdoidffaaGreatDoor

namespace Go.Proofs.YtmniodfdoidffaaGreatDoor
open Go.ChangeShapes Go.WideShapes Go.ChangeAt Go.RowKit

/-- The light of an hour on a window. -/
def fallOf (hs ts : List Int) (hour facing : Int) : Nat := fallB (atH hs hour) (atH ts hour - facing)

theorem i64_small (n : Int) (h0 : -100000 ≤ n) (h1 : n ≤ 100000) : IntKind.i64.wrap n = n := by
  simp [IntKind.wrap, IntKind.signed, IntKind.bits]
  omega

theorem litB_gt {l : Nat} (h : FloatKind.f32.format.order l 0 = some .gt) : litB l = l := if_pos h

theorem litB_no {l : Nat} {o : Ordering} (h : FloatKind.f32.format.order l 0 = some o) (ho : o ≠ .gt) : litB l = 0 := by
  unfold litB
  rw [h, if_neg (fun e => ho (by injection e))]

set_option maxRecDepth 100000 in
set_option maxHeartbeats 1000000 in
theorem fallAt_up (hs ts : List Int) (hh : hs.length = 24) (ht : ts.length = 24) (hour facing : Int) (hr0 : 0 ≤ hour) (hr1 : hour < 24) (hf0 : 0 ≤ facing) (hf1 : facing ≤ 255) (hx1 : atH hs hour ≤ 64) (hy0 : 0 ≤ atH ts hour) (hy1 : atH ts hour ≤ 255) (hpos : 0 < atH hs hour) (l : Nat) (hl : fmul (cosB (atH hs hour)) (cosB (angB (atH ts hour - facing))) = l) (o : Ordering) (ho : FloatKind.f32.format.order l 0 = some o) (w : World) :
    Calls Tryz.prog 81 #[.agg (sunC hs ts), .int .i64 hour, .int .i64 facing] w fun e w' => e = .returned (.float .f32 (litB l)) ∧ Below w.heap.size w w' := by
  have Hh := Lib.hid hh
  have Ht := Lib.hid ht
  have Hup := Lib.hid (upAt_any hs ts hh hour hr0 hr1)
  have hm := (mul_ok (cosB_num (atH hs hour)) (cosB_num (angB (atH ts hour - facing)))).1
  rw [hl] at hm
  have r : ∀ t w, (binOp .mul t (.float .f32 (cosB (atH hs hour))) (.float .f32 (cosB (angB (atH ts hour - facing))))).run Tryz.prog w = .ok (.float .f32 l) w := fun t w => run_float_arith w .mul t .f32 _ _ _ hm
  have hal := angB_lo (atH ts hour - facing)
  have hah := angB_hi (atH ts hour - facing)
  clear hh ht hm hl
  obtain ⟨k, rfl⟩ := Int.eq_ofNat_of_zero_le hr0
  have hk : k < 24 := by omega
  have ea : hs[k]?.getD 0 = atH hs (k : Int) := by unfold atH; rw [Int.toNat_natCast]
  have eb : ts[k]?.getD 0 = atH ts (k : Int) := by unfold atH; rw [Int.toNat_natCast]
  generalize atH hs (k : Int) = x at *
  generalize atH ts (k : Int) = y at *
  have Hx := Lib.hid ea
  have Hy := Lib.hid eb
  have hd : decide (0 < x) = true := decide_eq_true hpos
  rw [hd] at Hup
  clear hd ea eb
  cases o
  · have HL := Lib.hid (litB_no ho (by decide))
    go_enter Tryz.func81, Tryz.ntmps81
    go_upto_region 1 with (fail)
    refine abs_code (fun W => Below w.heap.size w W ∧ W.heap[w.heap.size]? = some (.cells (sunC hs ts) 35 (0, 0))) ⟨(Below.refl _ _).alloc (Nat.le_refl _) _, heap_alloc_new _ _⟩ ?_
    rintro W ⟨hb, h0⟩
    have H0 := Lib.hid h0
    clear h0
    go_wp2_with (first | (refine wpList_load_part rfl 35 _ rfl w.heap.size 0 48 rfl 35 (sunC hs ts) (0, 0) _ H0.out Tryz.underlying35 rfl info_sun (sun_fits _ _ Hh.out Ht.out) (sunC hs ts) (sun_all _ _ Hh.out Ht.out) ?_) | (go_at_call 80; refine (Hup.out _).mono ?_; rintro e W1 ⟨rfl, hb1⟩; replace H0 := Lib.hid (below_row hb1 H0.out); replace hb := hb.trans (hb1.mono hb.size); clear hb1; have hc1 := cell_sun_h H0.out Hh.out k hk; rw [Hx.out] at hc1; have hc2 := cell_sun_t H0.out Hh.out Ht.out k hk; rw [Hy.out] at hc2) | (go_at_call 91; refine (angleOf_any _ _).mono ?_; rintro e w' ⟨rfl, rfl⟩) | (go_at_call 92; refine (cosine_any _ (by omega) (by omega) _).mono ?_; rintro e W1 ⟨rfl, hb1⟩; replace H0 := Lib.hid (below_row hb1 H0.out); replace hb := hb.trans (hb1.mono hb.size); clear hb1))
    go_ret
    exact ⟨ret_f32 HL.out.symm, hb⟩
  · have HL := Lib.hid (litB_no ho (by decide))
    go_enter Tryz.func81, Tryz.ntmps81
    go_upto_region 1 with (fail)
    refine abs_code (fun W => Below w.heap.size w W ∧ W.heap[w.heap.size]? = some (.cells (sunC hs ts) 35 (0, 0))) ⟨(Below.refl _ _).alloc (Nat.le_refl _) _, heap_alloc_new _ _⟩ ?_
    rintro W ⟨hb, h0⟩
    have H0 := Lib.hid h0
    clear h0
    go_wp2_with (first | (refine wpList_load_part rfl 35 _ rfl w.heap.size 0 48 rfl 35 (sunC hs ts) (0, 0) _ H0.out Tryz.underlying35 rfl info_sun (sun_fits _ _ Hh.out Ht.out) (sunC hs ts) (sun_all _ _ Hh.out Ht.out) ?_) | (go_at_call 80; refine (Hup.out _).mono ?_; rintro e W1 ⟨rfl, hb1⟩; replace H0 := Lib.hid (below_row hb1 H0.out); replace hb := hb.trans (hb1.mono hb.size); clear hb1; have hc1 := cell_sun_h H0.out Hh.out k hk; rw [Hx.out] at hc1; have hc2 := cell_sun_t H0.out Hh.out Ht.out k hk; rw [Hy.out] at hc2) | (go_at_call 91; refine (angleOf_any _ _).mono ?_; rintro e w' ⟨rfl, rfl⟩) | (go_at_call 92; refine (cosine_any _ (by omega) (by omega) _).mono ?_; rintro e W1 ⟨rfl, hb1⟩; replace H0 := Lib.hid (below_row hb1 H0.out); replace hb := hb.trans (hb1.mono hb.size); clear hb1))
    go_ret
    exact ⟨ret_f32 HL.out.symm, hb⟩
  · have HL := Lib.hid (litB_gt ho)
    go_enter Tryz.func81, Tryz.ntmps81
    go_upto_region 1 with (fail)
    refine abs_code (fun W => Below w.heap.size w W ∧ W.heap[w.heap.size]? = some (.cells (sunC hs ts) 35 (0, 0))) ⟨(Below.refl _ _).alloc (Nat.le_refl _) _, heap_alloc_new _ _⟩ ?_
    rintro W ⟨hb, h0⟩
    have H0 := Lib.hid h0
    clear h0
    go_wp2_with (first | (refine wpList_load_part rfl 35 _ rfl w.heap.size 0 48 rfl 35 (sunC hs ts) (0, 0) _ H0.out Tryz.underlying35 rfl info_sun (sun_fits _ _ Hh.out Ht.out) (sunC hs ts) (sun_all _ _ Hh.out Ht.out) ?_) | (go_at_call 80; refine (Hup.out _).mono ?_; rintro e W1 ⟨rfl, hb1⟩; replace H0 := Lib.hid (below_row hb1 H0.out); replace hb := hb.trans (hb1.mono hb.size); clear hb1; have hc1 := cell_sun_h H0.out Hh.out k hk; rw [Hx.out] at hc1; have hc2 := cell_sun_t H0.out Hh.out Ht.out k hk; rw [Hy.out] at hc2) | (go_at_call 91; refine (angleOf_any _ _).mono ?_; rintro e w' ⟨rfl, rfl⟩) | (go_at_call 92; refine (cosine_any _ (by omega) (by omega) _).mono ?_; rintro e W1 ⟨rfl, hb1⟩; replace H0 := Lib.hid (below_row hb1 H0.out); replace hb := hb.trans (hb1.mono hb.size); clear hb1))
    go_ret
    exact ⟨ret_f32 HL.out.symm, hb⟩

set_option maxRecDepth 100000 in
set_option maxHeartbeats 1000000 in
theorem fallAt_any (hs ts : List Int) (hh : hs.length = 24) (ht : ts.length = 24) (hour facing : Int) (hr0 : 0 ≤ hour) (hr1 : hour < 24) (hf0 : 0 ≤ facing) (hf1 : facing ≤ 255) (hx1 : atH hs hour ≤ 64) (hy0 : 0 ≤ atH ts hour) (hy1 : atH ts hour ≤ 255) (w : World) :
    Calls Tryz.prog 81 #[.agg (sunC hs ts), .int .i64 hour, .int .i64 facing] w fun e w' => e = .returned (.float .f32 (fallOf hs ts hour facing)) ∧ Below w.heap.size w w' := by
  by_cases hpos : 0 < atH hs hour
  · obtain ⟨o, ho⟩ := order_some (mul_ok (cosB_num (atH hs hour)) (cosB_num (angB (atH ts hour - facing)))).2 zero_fin
    have e : fallOf hs ts hour facing = litB (fmul (cosB (atH hs hour)) (cosB (angB (atH ts hour - facing)))) := by
      unfold fallOf fallB
      rw [if_pos hpos, cosB_ang]
    rw [e]
    exact fallAt_up hs ts hh ht hour facing hr0 hr1 hf0 hf1 hx1 hy0 hy1 hpos _ rfl o ho w
  · have HR : Hid (fallOf hs ts hour facing = 0) := if_neg hpos
    have Hh := Lib.hid hh
    have Ht := Lib.hid ht
    have Hup := Lib.hid (upAt_any hs ts hh hour hr0 hr1)
    have hd : decide (0 < atH hs hour) = false := decide_eq_false hpos
    rw [hd] at Hup
    clear hh ht hd hpos hx1 hy0 hy1
    go_enter Tryz.func81, Tryz.ntmps81
    go_upto_region 1 with (fail)
    refine abs_code (fun W => Below w.heap.size w W ∧ W.heap[w.heap.size]? = some (.cells (sunC hs ts) 35 (0, 0))) ⟨(Below.refl _ _).alloc (Nat.le_refl _) _, heap_alloc_new _ _⟩ ?_
    rintro W ⟨hb, h0⟩
    have H0 := Lib.hid h0
    clear h0
    go_wp2_with (first | (refine wpList_load_part rfl 35 _ rfl w.heap.size 0 48 rfl 35 (sunC hs ts) (0, 0) _ H0.out Tryz.underlying35 rfl info_sun (sun_fits _ _ Hh.out Ht.out) (sunC hs ts) (sun_all _ _ Hh.out Ht.out) ?_) | (go_at_call 80; refine (Hup.out _).mono ?_; rintro e W1 ⟨rfl, hb1⟩; replace H0 := Lib.hid (below_row hb1 H0.out); replace hb := hb.trans (hb1.mono hb.size); clear hb1))
    go_ret
    exact ⟨ret_f32 HR.out.symm, hb⟩

set_option maxRecDepth 100000 in
set_option maxHeartbeats 1000000 in
theorem l01Fall_up (b : Nat) (hs ts : List Int) (hh : hs.length = 24) (ht : ts.length = 24) (hour facing : Int) (hr0 : 0 ≤ hour) (hr1 : hour < 24) (hf0 : 0 ≤ facing) (hf1 : facing ≤ 255) (hx1 : atH hs hour ≤ 64) (hy0 : 0 ≤ atH ts hour) (hy1 : atH ts hour ≤ 255) (t : TypeId) (fr : Nat × Nat) (hpos : 0 < atH hs hour) (l : Nat) (hl : fmul (cosB (atH hs hour)) (cosB (atH ts hour - facing)) = l) (o : Ordering) (ho : FloatKind.f32.format.order l 0 = some o) (w : World) (hg : w.heap[b]? = some (.cells (sunC hs ts) t fr)) :
    Calls Tryz.prog 51 #[.pointer (some ⟨b, 0, none⟩), .int .i64 hour, .int .i64 facing] w fun e w' => e = .returned (.float .f32 (litB l)) ∧ Below w.heap.size w w' := by
  have hm := (mul_ok (cosB_num (atH hs hour)) (cosB_num (atH ts hour - facing))).1
  rw [hl] at hm
  have r : ∀ t w, (binOp .mul t (.float .f32 (cosB (atH hs hour))) (.float .f32 (cosB (atH ts hour - facing)))).run Tryz.prog w = .ok (.float .f32 l) w := fun t w => run_float_arith w .mul t .f32 _ _ _ hm
  clear hm hl
  obtain ⟨k, rfl⟩ := Int.eq_ofNat_of_zero_le hr0
  have hk : k < 24 := by omega
  have ea : hs[k]?.getD 0 = atH hs (k : Int) := by unfold atH; rw [Int.toNat_natCast]
  have eb : ts[k]?.getD 0 = atH ts (k : Int) := by unfold atH; rw [Int.toNat_natCast]
  generalize atH hs (k : Int) = x at *
  generalize atH ts (k : Int) = y at *
  have Hx := Lib.hid ea
  have Hy := Lib.hid eb
  have hc1 := cell_sun_h hg hh k hk
  have hc2 := cell_sun_t hg hh ht k hk
  rw [Hx.out] at hc1
  rw [Hy.out] at hc2
  clear hg hh ht ea eb
  have HO := Lib.hid ho
  clear ho
  have q1 := i64_small x (by omega) (by omega)
  have q2 := i64_small y (by omega) (by omega)
  have q3 := i64_small (y - facing) (by omega) (by omega)
  go_enter Tryz.func51, Tryz.ntmps51
  go_wp2
  refine wp_region_held_drew (S := (fun W => W.cell? ⟨b, k, none⟩ = some (.int .i16 x) ∧ W.cell? ⟨b, 24 + k, none⟩ = some (.int .i16 y) ∧ Below w.heap.size w W)) (by kernel_rfl) ⟨by simpa using hc1, by simpa using hc2, (Below.refl _ _).drew⟩ (fun hHeld => ?_)
  refine take_at (i := 0) (d := 15) (v := ?_) rfl rfl (by kernel_rfl) (by kernel_rfl) (by kernel_rfl) (fun _ _ _ h => h) (Or.inl ⟨by rfl, ?hy0u5⟩) hHeld ?rest0u5
  case hy0u5 =>
    intro w' hS'
    obtain ⟨s1, s2, _⟩ := hS'
    go_simp
    try with_reducible rfl
  simp only [List.setIfInBounds_toArray, List.set_cons_zero, List.set_cons_succ]
  refine take_at (i := 1) (d := 16) (v := ?_) rfl rfl (by kernel_rfl) (by kernel_rfl) (by kernel_rfl) (fun _ _ _ h => h) (Or.inl ⟨by rfl, ?hy1u6⟩) hHeld ?rest1u6
  case hy1u6 =>
    intro w' hS'
    obtain ⟨s1, s2, _⟩ := hS'
    go_simp
    try with_reducible rfl
  simp only [List.setIfInBounds_toArray, List.set_cons_zero, List.set_cons_succ]
  refine take_at (i := 2) (d := 17) (v := ?_) rfl rfl (by kernel_rfl) (by kernel_rfl) (by kernel_rfl) (fun _ _ _ h => h) (Or.inl ⟨by rfl, ?hy2u7⟩) hHeld ?rest2u7
  case hy2u7 =>
    intro w' hS'
    obtain ⟨s1, s2, _⟩ := hS'
    go_simp
    try with_reducible rfl
  simp only [List.setIfInBounds_toArray, List.set_cons_zero, List.set_cons_succ]
  refine take_at (i := 3) (d := 18) (v := ?_) rfl rfl (by kernel_rfl) (by kernel_rfl) (by kernel_rfl) (fun _ _ _ h => h) (Or.inl ⟨by rfl, ?hy3u8⟩) hHeld ?rest3u8
  case hy3u8 =>
    intro w' hS'
    obtain ⟨s1, s2, _⟩ := hS'
    go_simp
    try with_reducible rfl
  simp only [List.setIfInBounds_toArray, List.set_cons_zero, List.set_cons_succ]
  refine take_at (i := 4) (d := 19) (v := ?_) rfl rfl (by kernel_rfl) (by kernel_rfl) (by kernel_rfl) (fun _ _ _ h => h) (Or.inl ⟨by rfl, ?hy4u9⟩) hHeld ?rest4u9
  case hy4u9 =>
    intro w' hS'
    obtain ⟨s1, s2, _⟩ := hS'
    go_simp
    try with_reducible rfl
  simp only [List.setIfInBounds_toArray, List.set_cons_zero, List.set_cons_succ]
  refine take_at (i := 5) (d := 20) (v := ?_) rfl rfl (by kernel_rfl) (by kernel_rfl) (by kernel_rfl) (fun _ _ _ h => h) (Or.inl ⟨by rfl, ?hy5u10⟩) hHeld ?rest5u10
  case hy5u10 =>
    intro w' hS'
    obtain ⟨s1, s2, _⟩ := hS'
    go_simp
    try with_reducible rfl
  simp only [List.setIfInBounds_toArray, List.set_cons_zero, List.set_cons_succ]
  refine take_at (i := 6) (d := 21) (v := ?_) rfl rfl (by kernel_rfl) (by kernel_rfl) (by kernel_rfl) (fun _ _ _ h => h) (Or.inl ⟨by rfl, ?hy6u11⟩) hHeld ?rest6u11
  case hy6u11 =>
    intro w' hS'
    obtain ⟨s1, s2, _⟩ := hS'
    go_simp
    try with_reducible rfl
  simp only [List.setIfInBounds_toArray, List.set_cons_zero, List.set_cons_succ]
  refine take_at (i := 8) (d := 23) (v := ?_) rfl rfl (by kernel_rfl) (by kernel_rfl) (by kernel_rfl) (fun _ _ _ h => h) (Or.inl ⟨by rfl, ?hy8u12⟩) hHeld ?rest8u12
  case hy8u12 =>
    intro w' hS'
    obtain ⟨s1, s2, _⟩ := hS'
    go_simp
    try with_reducible rfl
  simp only [List.setIfInBounds_toArray, List.set_cons_zero, List.set_cons_succ]
  refine take_at (i := 9) (d := 24) (v := ?_) rfl rfl (by kernel_rfl) (by kernel_rfl) (by kernel_rfl) (fun _ _ _ h => h) (Or.inl ⟨by rfl, ?hy9u13⟩) hHeld ?rest9u13
  case hy9u13 =>
    intro w' hS'
    obtain ⟨s1, s2, _⟩ := hS'
    go_simp
    try with_reducible rfl
  simp only [List.setIfInBounds_toArray, List.set_cons_zero, List.set_cons_succ]
  refine take_at (i := 10) (d := 25) (v := ?_) rfl rfl (by kernel_rfl) (by kernel_rfl) (by kernel_rfl) (fun _ _ _ h => h) (Or.inl ⟨by rfl, ?hy10u14⟩) hHeld ?rest10u14
  case hy10u14 =>
    intro w' hS'
    obtain ⟨s1, s2, _⟩ := hS'
    go_simp
    try with_reducible rfl
  simp only [List.setIfInBounds_toArray, List.set_cons_zero, List.set_cons_succ]
  refine take_at (i := 11) (d := 26) (v := ?_) rfl rfl (by kernel_rfl) (by kernel_rfl) (by kernel_rfl) (fun _ _ _ h => h) (Or.inl ⟨by rfl, ?hy11u15⟩) hHeld ?rest11u15
  case hy11u15 =>
    intro w' hS'
    obtain ⟨s1, s2, _⟩ := hS'
    go_simp
    try with_reducible rfl
  simp only [List.setIfInBounds_toArray, List.set_cons_zero, List.set_cons_succ]
  refine take_at (i := 12) (d := 27) (v := ?_) rfl rfl (by kernel_rfl) (by kernel_rfl) (by kernel_rfl) (fun _ _ _ h => h) (Or.inl ⟨by rfl, ?hy12u16⟩) hHeld ?rest12u16
  case hy12u16 =>
    intro w' hS'
    obtain ⟨s1, s2, _⟩ := hS'
    go_simp
    try with_reducible rfl
  simp only [List.setIfInBounds_toArray, List.set_cons_zero, List.set_cons_succ]
  refine take_at (i := 13) (d := 28) (v := ?_) rfl rfl (by kernel_rfl) (by kernel_rfl) (by kernel_rfl) (fun _ _ _ h => h) (Or.inl ⟨by rfl, ?hy13u17⟩) hHeld ?rest13u17
  case hy13u17 =>
    intro w' hS'
    obtain ⟨s1, s2, _⟩ := hS'
    go_simp
    try with_reducible rfl
  simp only [List.setIfInBounds_toArray, List.set_cons_zero, List.set_cons_succ]
  refine take_at (i := 14) (d := 29) (v := ?_) rfl rfl (by kernel_rfl) (by kernel_rfl) (by kernel_rfl) (fun _ _ _ h => h) (Or.inl ⟨by rfl, ?hy14u18⟩) hHeld ?rest14u18
  case hy14u18 =>
    intro w' hS'
    obtain ⟨s1, s2, _⟩ := hS'
    go_simp
    try with_reducible rfl
  simp only [List.setIfInBounds_toArray, List.set_cons_zero, List.set_cons_succ]
  refine take_at (i := 15) (d := 30) (v := ?_) rfl rfl (by kernel_rfl) (by kernel_rfl) (by kernel_rfl) (fun _ _ _ h => h) (Or.inl ⟨by rfl, ?hy15u19⟩) hHeld ?rest15u19
  case hy15u19 =>
    intro w' hS'
    obtain ⟨s1, s2, _⟩ := hS'
    go_simp
    try with_reducible rfl
  simp only [List.setIfInBounds_toArray, List.set_cons_zero, List.set_cons_succ]
  refine take_at (i := 16) (d := 31) (v := ?_) rfl rfl (by kernel_rfl) (by kernel_rfl) (by kernel_rfl) (fun _ _ _ h => h) (Or.inl ⟨by rfl, ?hy16u20⟩) hHeld ?rest16u20
  case hy16u20 =>
    intro w' hS'
    obtain ⟨s1, s2, _⟩ := hS'
    go_simp
    try with_reducible rfl
  simp only [List.setIfInBounds_toArray, List.set_cons_zero, List.set_cons_succ]
  refine wpAnyH_ready (rs := [7]) (by kernel_rfl) (by simp) ?_
  refine AllReadyH.cons rfl (fun K hK => ?_) AllReadyH.nil
  go_simp
  refine (l01Cosine_any _ _).mono ?_
  rintro e w' ⟨rfl, rfl⟩
  refine hK.out _ _ (hHeld) (fun hHeld2 => ?_)
  clear hK K
  replace hHeld := hHeld2
  clear hHeld2
  refine wpAnyH_ready (rs := [17]) (by kernel_rfl) (by simp) ?_
  refine AllReadyH.cons rfl (fun K hK => ?_) AllReadyH.nil
  go_simp
  refine (l01Cosine_any _ _).mono ?_
  rintro e w' ⟨rfl, rfl⟩
  refine hK.out _ _ (hHeld) (fun hHeld2 => ?_)
  clear hK K
  replace hHeld := hHeld2
  clear hHeld2
  refine take_at (i := 18) (d := 33) (v := ?_) rfl rfl (by kernel_rfl) (by kernel_rfl) (by kernel_rfl) (fun _ _ _ h => h) (Or.inl ⟨by rfl, ?hy18u21⟩) hHeld ?rest18u21
  case hy18u21 =>
    intro w' hS'
    obtain ⟨s1, s2, _⟩ := hS'
    go_simp
    try with_reducible rfl
  simp only [List.setIfInBounds_toArray, List.set_cons_zero, List.set_cons_succ]
  refine take_at (i := 19) (d := 7) (v := ?_) rfl rfl (by kernel_rfl) (by kernel_rfl) (by kernel_rfl) (fun _ _ _ h => h) (Or.inl ⟨by rfl, ?hy19u22⟩) hHeld ?rest19u22
  case hy19u22 =>
    intro w' hS'
    obtain ⟨s1, s2, _⟩ := hS'
    go_simp
    try with_reducible rfl
  simp only [List.setIfInBounds_toArray, List.set_cons_zero, List.set_cons_succ]
  refine wpAnyH_done (by kernel_rfl) ?_ _
  clear q1 q2 q3
  have ho := HO.out
  cases o
  · have HL := Lib.hid (litB_no ho (by decide))
    go_wp2
    go_ret
    exact ⟨ret_f32 HL.out.symm, hHeld.2.2⟩
  · have HL := Lib.hid (litB_no ho (by decide))
    go_wp2
    go_ret
    exact ⟨ret_f32 HL.out.symm, hHeld.2.2⟩
  · have HL := Lib.hid (litB_gt ho)
    go_wp2
    go_ret
    exact ⟨ret_f32 HL.out.symm, hHeld.2.2⟩

set_option maxRecDepth 100000 in
set_option maxHeartbeats 1000000 in
theorem l01Fall_any (b : Nat) (hs ts : List Int) (hh : hs.length = 24) (ht : ts.length = 24) (hour facing : Int) (hr0 : 0 ≤ hour) (hr1 : hour < 24) (hf0 : 0 ≤ facing) (hf1 : facing ≤ 255) (hx1 : atH hs hour ≤ 64) (hy0 : 0 ≤ atH ts hour) (hy1 : atH ts hour ≤ 255) (t : TypeId) (fr : Nat × Nat) (w : World) (hg : w.heap[b]? = some (.cells (sunC hs ts) t fr)) :
    Calls Tryz.prog 51 #[.pointer (some ⟨b, 0, none⟩), .int .i64 hour, .int .i64 facing] w fun e w' => e = .returned (.float .f32 (fallOf hs ts hour facing)) ∧ Below w.heap.size w w' := by
  by_cases hpos : 0 < atH hs hour
  · obtain ⟨o, ho⟩ := order_some (mul_ok (cosB_num (atH hs hour)) (cosB_num (atH ts hour - facing))).2 zero_fin
    have e : fallOf hs ts hour facing = litB (fmul (cosB (atH hs hour)) (cosB (atH ts hour - facing))) := by
      unfold fallOf fallB
      rw [if_pos hpos]
    rw [e]
    exact l01Fall_up b hs ts hh ht hour facing hr0 hr1 hf0 hf1 hx1 hy0 hy1 t fr hpos _ rfl o ho w hg
  · have HR : Hid (fallOf hs ts hour facing = 0) := if_neg hpos
    obtain ⟨k, rfl⟩ := Int.eq_ofNat_of_zero_le hr0
    have hk : k < 24 := by omega
    have ea : hs[k]?.getD 0 = atH hs (k : Int) := by unfold atH; rw [Int.toNat_natCast]
    have eb : ts[k]?.getD 0 = atH ts (k : Int) := by unfold atH; rw [Int.toNat_natCast]
    generalize atH hs (k : Int) = x at *
    generalize atH ts (k : Int) = y at *
    have Hx := Lib.hid ea
    have Hy := Lib.hid eb
    have hc1 := cell_sun_h hg hh k hk
    rw [Hx.out] at hc1
    clear hg hh ht ea eb
    go_enter Tryz.func51, Tryz.ntmps51
    go_wp2
    go_ret
    exact ⟨ret_f32 HR.out.symm, Below.refl _ _⟩

end Go.Proofs.YtmniodfdoidffaaGreatDoor

namespace Go.Proofs.YtmniodfdoidffaaGreatDoor
open Go.ChangeShapes Go.WideShapes Go.ChangeAt Go.RowKit

theorem isFacing_is (n : Int) (b : Bool) (h : inF n = b) (w : World) : Calls Tryz.prog 21 #[.int .i64 n] w fun e w' => e = .returned (.bool b) ∧ w = w' := by
  subst h; exact isFacing_any n w

theorem l01Faced_is (n : Int) (b : Bool) (h : inF n = b) (w : World) : Calls Tryz.prog 14 #[.int .i64 n] w fun e w' => e = .returned (.bool b) ∧ w = w' := by
  subst h; exact l01Faced_any n w

theorem inF_bd {n : Int} (h : inF n = true) : 0 ≤ n ∧ n ≤ 255 := inB_true h

end Go.Proofs.YtmniodfdoidffaaGreatDoor

namespace Go.Proofs.YtmniodfdoidffaaGreatDoor
open Go.ChangeShapes Go.WideShapes Go.ChangeAt Go.RowKit Go.Deep Go.Joins

attribute [local go_sem] run_store_f

def okAw (o dr gp tl : Nat) : Bool := betw o 0 1090519040 && betw dr 0 1073741824 && betw gp 0 1073741824 && betw tl 1040187392 1082130432

/-- The bounds of an awning that is valid. -/
structure AwOk (o dr gp tl : Nat) : Prop where
  o : o ≤ 1090519040 ∨ o = 2147483648
  d : dr ≤ 1073741824 ∨ dr = 2147483648
  g : gp ≤ 1073741824 ∨ gp = 2147483648
  t0 : 1040187392 ≤ tl
  t1 : tl ≤ 1082130432
theorem awok_of {o dr gp tl : Nat} (aw : AwWf o dr gp tl) (h : okAw o dr gp tl = true) : AwOk o dr gp tl := by
  simp only [okAw, Bool.and_eq_true] at h
  obtain ⟨⟨⟨h1, h2⟩, h3⟩, h4⟩ := h
  obtain ⟨a1, a2⟩ := betw_above aw.2.2.2 (by decide) (by decide) (by decide) h4
  exact ⟨betw_zero aw.1 (by decide) h1, betw_zero aw.2.1 (by decide) h2, betw_zero aw.2.2.1 (by decide) h3, a1, a2⟩

theorem ret_boolA {a b : Bool} (h : a = b) : Ending.returned (.bool a) = .returned (.bool b) := by rw [h]
/-- A comparison that has no answer yet, as a truth value. -/
theorem bin_geq (t : TypeId) (x y : Nat) (w : World) : (binOp .geq t (.float .f32 x) (.float .f32 y)).run Tryz.prog w = .ok (.bool (ge0 (FloatKind.f32.format.order x y))) w := by
  rcases h0 : FloatKind.f32.format.order x y with _ | (_ | _ | _) <;> simp [binOp, go_sem, Op.floatCmp, h0, ge0]
theorem bin_leq (t : TypeId) (x y : Nat) (w : World) : (binOp .leq t (.float .f32 x) (.float .f32 y)).run Tryz.prog w = .ok (.bool (le0 (FloatKind.f32.format.order x y))) w := by
  rcases h0 : FloatKind.f32.format.order x y with _ | (_ | _ | _) <;> simp [binOp, go_sem, Op.floatCmp, h0, le0]

end Go.Proofs.YtmniodfdoidffaaGreatDoor

namespace Go.Proofs.YtmniodfdoidffaaGreatDoor
open Go.ChangeShapes Go.WideShapes Go.ChangeAt Go.RowKit Go.Deep Go.Joins

/-- An hour and a facing that are in their ranges, and what a valid sun tells of the hour. -/
structure HrOk (hs ts : List Int) (hour fc : Int) : Prop where
  h0 : 0 ≤ hour
  h1 : hour < 24
  f0 : 0 ≤ fc
  f1 : fc ≤ 255
  x0 : -64 ≤ atH hs hour
  x1 : atH hs hour ≤ 64
  y0 : 0 ≤ atH ts hour
  y1 : atH ts hour ≤ 255

theorem hrok_of {hs ts : List Int} (hh : hs.length = 24) (ht : ts.length = 24) (ho : okB hs ts = true) {hour fc : Int} (h0 : 0 ≤ hour) (h1 : hour < 24) (hf : inF fc = true) : HrOk hs ts hour fc :=
  ⟨h0, h1, (inF_bd hf).1, (inF_bd hf).2, (okB_h hh ht ho hour h0 h1).1, (okB_h hh ht ho hour h0 h1).2, (okB_t hh ht ho hour h0 h1).1, (okB_t hh ht ho hour h0 h1).2⟩

set_option maxRecDepth 100000 in
set_option maxHeartbeats 1000000 in
theorem fall_any (hs ts : List Int) (hh : hs.length = 24) (ht : ts.length = 24) (fc hour : Int) (k : HrOk hs ts hour fc) (w : World) :
    Calls Tryz.prog 76 #[.agg (fsC hs ts fc), .int .i64 hour] w fun e w' => e = .returned (.float .f32 (fallOf hs ts hour fc)) ∧ Below w.heap.size w w' := by
  have HF := Lib.hid (fun w => fallAt_any hs ts hh ht hour fc k.h0 k.h1 k.f0 k.f1 k.x1 k.y0 k.y1 w)
  have Hh := Lib.hid hh
  have Ht := Lib.hid ht
  clear hh ht
  clear k
  go_enter Tryz.func76, Tryz.ntmps76
  go_upto_region 1 with (fail)
  refine abs_world (fun W => W.heap[w.heap.size]? = some (.cells (fsC hs ts fc) 62 (0, 0)) ∧ Below w.heap.size w W) (⟨heap_alloc_new _ _, (Below.refl _ _).alloc (Nat.le_refl _) _⟩) ?_
  rintro W ⟨h0, hb⟩
  have H0 := Lib.hid h0
  have c48 := fs_cell Hh.out Ht.out h0
  clear h0
  go_wp2_with (first | (refine wpList_load_partG 35 _ rfl w.heap.size 0 48 rfl rfl 62 (fsC hs ts fc) (0, 0) _ H0.out Tryz.underlying35 rfl info_sun (fs_fits48 _ _ _ Hh.out Ht.out) _ (fs_sun _ _ _ Hh.out Ht.out) ?_) | (refine wpList_load_partG 62 _ rfl w.heap.size 0 49 rfl rfl 62 (fsC hs ts fc) (0, 0) _ H0.out Tryz.underlying62 rfl info_fs (fs_fits _ _ _ Hh.out Ht.out) _ (fs_all _ _ _ Hh.out Ht.out) ?_) | (go_at_call 81; refine (HF.out _).mono ?_; rintro e W1 ⟨rfl, hb1⟩; replace H0 := Lib.hid (below_row hb1 H0.out); replace hb := hb.trans (hb1.mono hb.size); clear hb1))
  go_ret
  exact ⟨rfl, hb⟩

theorem fall_gt {f : Nat} (f0 : 975015322 ≤ f) (f1 : f ≤ 1065353216) : FloatKind.f32.format.order f 0 = some .gt := by
  rw [order_pos (by omega) (by decide), Nat.compare_eq_gt.2 (by omega)]

theorem fall_eq : FloatKind.f32.format.order 0 0 = some .eq := by decide +kernel

theorem eq_one {q : Nat} (hq : q < 4294967296) (h : FloatKind.f32.format.order q 1065353216 = some .eq) : q = 1065353216 := by
  rcases word_cases q hq with c | c | c | c
  · rw [order_num c (.inl (by decide))] at h
    injection h with h
    have k := Int.compare_eq_eq.1 h
    rw [sv_pos (x := 1065353216) (by decide)] at k
    have p := rv_pos (r := 1065353216) (by decide)
    rcases c with c | ⟨c0, c1⟩
    · rw [sv_pos (x := q) (by omega)] at k
      exact rv_inj (by omega)
    · obtain ⟨r, rfl⟩ : ∃ r, q = 2147483648 + r := ⟨q - 2147483648, by omega⟩
      have := sv_neg_le r
      omega
  · subst c
    rw [(inf_order 1065353216 (.inl (by decide))).1] at h; cases h
  · subst c
    rw [(inf_order 1065353216 (.inl (by decide))).2] at h; cases h
  · rw [nan_order c] at h; cases h

theorem run_minq (q : Nat) (hq : q < 4294967296) (hf : fin32 q = true) (h0 : FloatKind.f32.format.order q 0 = some .gt) (ts : Array TypeId) (T : TypeId) (w : World) : (Builtin.min_ ts T #[.float .f32 q, .float .f32 1065353216]).run Tryz.prog w = .ok (.float .f32 (cutB q)) w := by
  obtain ⟨o, ho⟩ := order_some hf (num_fin (num_of_isNum (x := 1065353216) (.inl (by decide))))
  unfold cutB
  rw [if_pos h0]
  simp only [Builtin.min_, List.foldlM_cons, List.foldlM_nil, Builtin.min2, ho]
  cases o
  · rfl
  · have e := eq_one hq ho
    subst e; rfl
  · rfl

theorem cut_le0 {q : Nat} (h0 : FloatKind.f32.format.order q 0 = some .lt ∨ FloatKind.f32.format.order q 0 = some .eq) : cutB q = 0 := by
  unfold cutB
  rcases h0 with h0 | h0 <;> rw [h0] <;> rfl

theorem shB_zero (o dr gp tl : Nat) (x : Int) : shB o dr gp tl x 0 = 0 := rfl

theorem shB_pos {o dr gp tl : Nat} {x : Int} {f : Nat} (h : 975015322 ≤ f) : shB o dr gp tl x f = cutB (quoA o dr gp tl x f) := if_neg (by omega)

theorem run_qf (op : BinOp) (x y r : Nat) (h : floatBits op .f32 x y = some r) : ∀ t w, (binOp op t (.float .f32 x) (.float .f32 y)).run Tryz.prog w = .ok (.float .f32 r) w := fun t w => run_float_arith w op t .f32 x y r h



theorem fall_le {hs ts : List Int} {hour fc : Int} (k : HrOk hs ts hour fc) : fallOf hs ts hour fc ≤ 1065353216 := by
  by_cases x0 : 0 < atH hs hour
  · rcases fall_rng (atH hs hour) (atH ts hour - fc) x0 k.x1 with h | ⟨_, f1⟩
    · rw [show fallOf hs ts hour fc = 0 from h]; decide
    · exact f1
  · rw [show fallOf hs ts hour fc = 0 from if_neg x0]; decide

theorem shB_le {o dr gp tl : Nat} (aw : AwOk o dr gp tl) {hs ts : List Int} {hour fc : Int} (k : HrOk hs ts hour fc) : shB o dr gp tl (atH hs hour) (fallOf hs ts hour fc) ≤ 1065353216 := by
  by_cases x0 : 0 < atH hs hour
  · rcases fall_rng (atH hs hour) (atH ts hour - fc) x0 k.x1 with h | ⟨f0, f1⟩
    · rw [show fallOf hs ts hour fc = 0 from h, shB_zero]; decide
    · rw [shB_pos (f := fallOf hs ts hour fc) f0]
      obtain ⟨_, _, _, _, r5, _⟩ := shade_facts aw.o aw.d aw.g aw.t0 aw.t1 x0 k.x1 f0 f1
      exact cutB_le (quoA_lt r5)
  · rw [show fallOf hs ts hour fc = 0 from if_neg x0, shB_zero]; decide

/-- The light behind an awning at an hour. -/
def behOf (o dr gp tl : Nat) (hs ts : List Int) (hour fc : Int) : Nat := behB (fallOf hs ts hour fc) (shB o dr gp tl (atH hs hour) (fallOf hs ts hour fc))

theorem beh_le {o dr gp tl : Nat} (aw : AwOk o dr gp tl) {hs ts : List Int} {hour fc : Int} (k : HrOk hs ts hour fc) : behOf o dr gp tl hs ts hour fc ≤ 1065353216 := Nat.le_trans (beh_facts (fall_le k) (shB_le aw k)).2.2 (fall_le k)

end Go.Proofs.YtmniodfdoidffaaGreatDoor

namespace Go.Proofs.YtmniodfdoidffaaGreatDoor
open Go.ChangeShapes Go.WideShapes Go.ChangeAt Go.RowKit Go.Deep Go.Joins

attribute [local go_sem] run_store_f

set_option maxHeartbeats 1000000 in
theorem sizeOf_any (x : Nat) (h : isNum x) (w : World) :
    Calls Tryz.prog 94 #[.float .f32 x] w fun e w' => e = .returned (.float .f32 (sizeB x)) ∧ w = w' := by
  rcases size_cases h with ⟨r, h0, h1, rfl, ho⟩ | ⟨hx, ho | ho⟩
  · rw [sizeB_neg h0]
    have r1 : ∀ t w, (binOp .sub t (.float .f32 0) (.float .f32 (2147483648 + r))).run Tryz.prog w = .ok (.float .f32 r) w := fun t w => run_float_arith w .sub t .f32 _ _ _ (sub_neg h1)
    go_enter Tryz.func94, Tryz.ntmps94
    go_wp2
    go_ret
    exact ⟨rfl, rfl⟩
  · rw [sizeB_pos hx]
    go_enter Tryz.func94, Tryz.ntmps94
    go_wp2
    go_ret
    exact ⟨rfl, rfl⟩
  · rw [sizeB_pos hx]
    go_enter Tryz.func94, Tryz.ntmps94
    go_wp2
    go_ret
    exact ⟨rfl, rfl⟩

set_option maxHeartbeats 1000000 in
theorem l01Size_any (x : Nat) (h : isNum x) (w : World) :
    Calls Tryz.prog 90 #[.float .f32 x] w fun e w' => e = .returned (.float .f32 (sizeB x)) ∧ w = w' := by
  rcases size_cases h with ⟨r, h0, h1, rfl, ho⟩ | ⟨hx, ho | ho⟩
  · rw [sizeB_neg h0]
    have ru : ∀ w, (Op.unary .neg (.float .f32 (2147483648 + r))).run Tryz.prog w = .ok (.float .f32 r) w := fun w => by simp [Op.unary, neg_neg (r := r) (by omega)]
    go_enter Tryz.func90, Tryz.ntmps90
    go_wp2
    go_ret
    exact ⟨rfl, rfl⟩
  · rw [sizeB_pos hx]
    go_enter Tryz.func90, Tryz.ntmps90
    go_wp2
    go_ret
    exact ⟨rfl, rfl⟩
  · rw [sizeB_pos hx]
    go_enter Tryz.func90, Tryz.ntmps90
    go_wp2
    go_ret
    exact ⟨rfl, rfl⟩

/-- The lengths of a blind, as words. -/
theorem len_get {a : Nat} (hw : (Lit.float .f32 a).wf = true) (h : lenB a = true) : 1031798784 ≤ a ∧ a ≤ 1115684864 := betw_above hw (by decide) (by decide) (by decide) h

theorem part_get {a : Nat} (hw : (Lit.float .f32 a).wf = true) (h : partB a = true) : a ≤ 1065353216 ∨ a = 2147483648 := betw_zero hw (by decide) h

theorem cos_gt (h : Int) (h0 : 1 ≤ h) (h1 : h < 64) : FloatKind.f32.format.order (cosB h) 0 = some .gt := by
  obtain ⟨c0, c1⟩ := cos_high h h0 h1
  rw [order_pos (by omega) (by decide), Nat.compare_eq_gt.2 (by omega)]

theorem cos_eq : FloatKind.f32.format.order (cosB 64) 0 = some .eq := by rw [cos_top]; decide +kernel

theorem run_min1 (ts : Array TypeId) (T : TypeId) (q : Nat) (h : q < 2139095040) (w : World) : (Builtin.min_ ts T #[.float .f32 q, .float .f32 1065353216]).run Tryz.prog w = .ok (.float .f32 (min1 q)) w := by
  have ho := order_pos h (y := 1065353216) (by decide)
  simp only [Builtin.min_, List.foldlM_cons, List.foldlM_nil, Builtin.min2, ho]
  rcases Nat.lt_trichotomy q 1065353216 with c | c | c
  · have e : min1 q = q := if_neg (by omega)
    rw [Nat.compare_eq_lt.2 c, e]; rfl
  · subst c; rfl
  · have e : min1 q = 1065353216 := if_pos c
    rw [Nat.compare_eq_gt.2 c, e]; rfl

set_option maxRecDepth 100000 in
set_option maxHeartbeats 1000000 in
theorem blockedAt_any (n : Int) (wd gp : Nat) (t : Int) (sh : Nat) (w0 : 1031798784 ≤ wd) (w1 : wd ≤ 1115684864) (g0 : 1031798784 ≤ gp) (g1 : gp ≤ 1115684864) (t0 : -64 ≤ t) (t1 : t ≤ 64) (h : Int) (h0 : 1 ≤ h) (h1 : h ≤ 64) (w : World) :
    Calls Tryz.prog 84 #[.agg (blindC n wd gp t sh), .int .i64 h] w fun e w' => e = .returned (.float .f32 (blkB wd gp t h)) ∧ Below w.heap.size w w' := by
  by_cases hh : h < 64
  · obtain ⟨f1, f2, f3, f4, _, _⟩ := blk_facts (t := t) w0 w1 g0 g1 h0 hh
    have hc := cos_gt h h0 hh
    have HN := Lib.hid (sine_isNum (h + t))
    have hB : blkB wd gp t h = min1 (quoB wd gp t h) := if_neg (by omega)
    rw [hB]
    clear hB
    have r1 : ∀ T w, (binOp .mul T (.float .f32 wd) (.float .f32 (sizeB (sineB (angB (h + t)))))).run Tryz.prog w = .ok (.float .f32 (fmul wd (sizeB (sineB (angB (h + t)))))) w := fun T w => run_float_arith w .mul T .f32 _ _ _ f1
    have r2 : ∀ T w, (binOp .mul T (.float .f32 gp) (.float .f32 (cosB h))).run Tryz.prog w = .ok (.float .f32 (fmul gp (cosB h))) w := fun T w => run_float_arith w .mul T .f32 _ _ _ f2
    have r3 : ∀ T w, (binOp .quo T (.float .f32 (fmul wd (sizeB (sineB (angB (h + t)))))) (.float .f32 (fmul gp (cosB h)))).run Tryz.prog w = .ok (.float .f32 (quoB wd gp t h)) w := fun T w => run_float_arith w .quo T .f32 _ _ _ f3
    have r4 : ∀ ts T w, (Builtin.min_ ts T #[.float .f32 (quoB wd gp t h), .float .f32 1065353216]).run Tryz.prog w = .ok (.float .f32 (min1 (quoB wd gp t h))) w := fun ts T w => run_min1 ts T _ f4 w
    clear f1 f2 f3 f4
    generalize fmul wd (sizeB (sineB (angB (h + t)))) = x1 at *
    generalize fmul gp (cosB h) = x2 at *
    go_enter Tryz.func84, Tryz.ntmps84
    go_upto_region 1 with (fail)
    refine abs_world (fun W => Below w.heap.size w W ∧ W.heap[w.heap.size]? = some (.cells (blindC n wd gp t sh) 33 (0, 0))) ⟨(Below.refl _ _).alloc (Nat.le_refl _) _, heap_alloc_new _ _⟩ ?_
    rintro W ⟨hb, hc0⟩
    have H0 := Lib.hid hc0
    obtain ⟨k0, k1, k2, k3, k4⟩ := blind_cells hc0
    clear hc0
    go_wp2_with (first | (go_at_call 93; refine (CosineOf_any _ _).mono ?_; rintro e W1 ⟨rfl, hb1⟩; replace H0 := Lib.hid (below_row hb1 H0.out); replace hb := hb.trans (hb1.mono hb.size); clear hb1; clear k0 k1 k2 k3 k4; obtain ⟨k0, k1, k2, k3, k4⟩ := blind_cells H0.out) | (go_at_call 95; refine (SineOf_any _ _).mono ?_; rintro e W1 ⟨rfl, hb1⟩; replace H0 := Lib.hid (below_row hb1 H0.out); replace hb := hb.trans (hb1.mono hb.size); clear hb1; clear k0 k1 k2 k3 k4; obtain ⟨k0, k1, k2, k3, k4⟩ := blind_cells H0.out) | (go_at_call 94; refine (sizeOf_any _ HN.out _).mono ?_; rintro e w' ⟨rfl, rfl⟩))
    go_ret
    exact ⟨rfl, hb⟩
  · obtain rfl : h = 64 := by omega
    have hc := cos_eq
    have hB : blkB wd gp t 64 = 1065353216 := rfl
    rw [hB]
    clear hB
    go_enter Tryz.func84, Tryz.ntmps84
    go_wp2_with (go_at_call 93; refine (CosineOf_any _ _).mono ?_; rintro e W1 ⟨rfl, hb1⟩)
    go_ret
    exact ⟨rfl, (Below.alloc (Below.refl _ _) (Nat.le_refl _) _).trans (hb1.mono (by simp))⟩

end Go.Proofs.YtmniodfdoidffaaGreatDoor
