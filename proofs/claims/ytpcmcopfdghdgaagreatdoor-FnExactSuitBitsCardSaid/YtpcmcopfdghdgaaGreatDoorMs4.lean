/-
  EtB, EtC, EtD, EtH, LtA, LtB, GbP, SbP, RwA, RwC, RwD, ListLaw, SbM, SbQ, GbS.
-/
import Derived.Test.YtpcmcopfdghdgaaGreatDoorMs3
import Derived.Test.YtpcmcopfdghdgaaGreatDoorMs2
import Derived.Maps.AppendAt
import Derived.OwnWalk
import Derived.Test.YtpcmcopfdghdgaaGreatDoorMs1
import Derived.Great.BuildSlice
import Derived.Test.YtpcmcopfdghdgaaGreatDoorSameN
import Derived.Test.YtpcmcopfdghdgaaGreatDoorRoomK
import Derived.Test.YtpcmcopfdghdgaaGreatDoorRoomL
import Derived.Laws.AppendOwn
import Derived.Test.YtpcmcopfdghdgaaGreatDoorSgn

namespace Go.Proofs.YtpcmcopfdghdgaaGreatDoor
open Go.RowKit Go.Shelf

attribute [local go_sem] Oper.semAt_some

theorem heap_keptWE {W W' : World} {row : Option Nat} {b : Nat} {cs : Array Value} {t : TypeId} {fr : Nat × Nat} (h : W.heap[b]? = some (.cells cs t fr)) (hg : W.grownBy W' row)
    (hr : ∀ r, row = some r → ∃ o : Obj, W.heap[r]? = some o ∧ o.isCells = false) : W'.heap[b]? = some (.cells cs t fr) := by
  have hlt := (Array.getElem?_eq_some_iff.1 h).1
  rw [← h]
  refine hg.block b hlt fun e => ?_
  obtain ⟨o, ho, hc⟩ := hr b e.symm
  rw [h] at ho
  cases ho
  cases hc

theorem keeps_of_belowWE {W W1 : World} (hb : Below W.heap.size W W1) : KeepsOthers W W1 := ⟨hb.size, fun b _ ho _ => (hb.block b (Array.getElem?_eq_some_iff.1 ho).1).trans ho⟩

theorem laid_allwE (cs vs : Array Value) (h : cs.size = vs.size) : laid cs vs 0 = vs := by
  apply Array.ext'
  simp [laid]
  rw [← h]; simp

theorem grown_of_belowE {w w' : World} (h : Below w.heap.size w w') (row : Option Nat) : w.grownBy w' row := ⟨h.os, h.tape, h.output, h.size, fun k hk _ => h.block k hk⟩

theorem run_store_floatE (P : Program) (w : World) (a : Addr) (k : FloatKind) (b : Nat) (m : Mode) : (store a (.float k b) m).run P w = stored P w a (.float k b) m := run_store P w a _ m rfl

attribute [local go_sem] run_store_floatE

def mpC (xs : List Nat) : Array Value := (xs.map (Value.float .f32)).toArray

theorem mpC_size (xs : List Nat) : (mpC xs).size = xs.length := by simp [mpC]

theorem mpC_set (xs : List Nat) (k : Nat) (n : Nat) : (mpC xs).setIfInBounds k (.float .f32 n) = mpC (xs.set k n) := by
  apply Array.ext'
  simp [mpC, List.map_set]

theorem mpC_cell {V : World} {g : Nat} {xs : List Nat} {t : TypeId} {fr : Nat × Nat} (hg : V.heap[g]? = some (.cells (mpC xs) t fr)) (k : Nat) (h : k < xs.length) : V.cell? ⟨g, k, none⟩ = some (.float .f32 (xs[k]?.getD 0)) := by
  rw [cell_of_row V _ _ _ _ _ hg]
  simp [mpC, h]

theorem mpC_all (xs : List Nat) (n : Nat) (h : xs.length = n) : (mpC xs).extract 0 (0 + n) = mpC xs := by
  rw [Nat.zero_add, ← h, ← mpC_size, Array.extract_size]

theorem mpC_one (xs : List Nat) : ∀ v ∈ mpC xs, v.oneCell' = true := by
  intro v hv
  simp only [mpC, List.mem_toArray, List.mem_map] at hv
  obtain ⟨x, _, rfl⟩ := hv
  rfl





def zM : List Nat := List.replicate 100 0

theorem zM_len : zM.length = 100 := by simp [zM]

/-- The map of a room, as far as its tiles have been looked at. -/
def mpK (g : Int × Int → Nat) (W H k : Nat) : List Nat := (List.range 100).map (fun i => if i % 10 < W ∧ i / 10 < H ∧ i / 10 * W + i % 10 < k then g (((i % 10 : Nat) : Int), ((i / 10 : Nat) : Int)) else 0)

theorem mpK_len (g : Int × Int → Nat) (W H k : Nat) : (mpK g W H k).length = 100 := by simp [mpK]

theorem mpK_zero (g : Int × Int → Nat) (W H : Nat) : mpK g W H 0 = zM := by
  apply List.ext_getElem
  · simp [mpK, zM]
  · intro i h1 h2
    simp only [mpK, zM, List.getElem_map, List.getElem_range, List.getElem_replicate]
    rw [if_neg (fun h => Nat.not_lt_zero _ h.2.2)]

theorem mpK_step (g : Int × Int → Nat) (W H : Nat) (hW : 0 < W) (hW1 : W ≤ 10) {x y : Nat} (hx : x < W) (hy : y < H) : (mpK g W H (y * W + x)).set (y * 10 + x) (g ((x : Int), (y : Int))) = mpK g W H (y * W + x + 1) := by
  apply List.ext_getElem
  · simp [mpK]
  · intro i h1 h2
    have hi : i < 100 := by simpa [mpK] using h2
    rw [List.getElem_set]
    simp only [mpK, List.getElem_map, List.getElem_range]
    by_cases e : y * 10 + x = i
    · subst e
      have e1 : (y * 10 + x) % 10 = x := by omega
      have e2 : (y * 10 + x) / 10 = y := by omega
      rw [if_pos rfl, e1, e2, if_pos ⟨hx, hy, by omega⟩]
    · rw [if_neg e]
      by_cases hc : i % 10 < W ∧ i / 10 < H
      · have hne : i / 10 * W + i % 10 ≠ y * W + x := by
          intro h
          have a1 : (i / 10 * W + i % 10) % W = i % 10 := by rw [Nat.mul_comm, Nat.mul_add_mod]; exact Nat.mod_eq_of_lt hc.1
          have a2 : (y * W + x) % W = x := by rw [Nat.mul_comm, Nat.mul_add_mod]; exact Nat.mod_eq_of_lt hx
          have a3 : (i / 10 * W + i % 10) / W = i / 10 := by rw [Nat.mul_comm, Nat.mul_add_div hW, Nat.div_eq_of_lt hc.1, Nat.add_zero]
          have a4 : (y * W + x) / W = y := by rw [Nat.mul_comm, Nat.mul_add_div hW, Nat.div_eq_of_lt hx, Nat.add_zero]
          rw [h] at a1 a3
          omega
        by_cases hk : i / 10 * W + i % 10 < y * W + x
        · rw [if_pos ⟨hc.1, hc.2, hk⟩, if_pos ⟨hc.1, hc.2, by omega⟩]
        · rw [if_neg (fun h => hk h.2.2), if_neg (fun h => by have := h.2.2; omega)]
      · rw [if_neg (fun h => hc ⟨h.1, h.2.1⟩), if_neg (fun h => hc ⟨h.1, h.2.1⟩)]

def GoodT (W H : Nat) (hW : 0 < W) (hH : 0 < H) (pre : List (Tt W H)) : Prop := pre = tks W H hW hH pre.length

theorem goodT_snoc {W H : Nat} {hW : 0 < W} {hH : 0 < H} {pre : List (Tt W H)} {x : Tt W H} (h : GoodT W H hW hH (pre ++ [x])) : GoodT W H hW hH pre ∧ x = tk W H hW hH pre.length := by
  unfold GoodT at h
  rw [List.length_append, List.length_singleton, tks_succ] at h
  have := List.append_inj h (by simp)
  exact ⟨this.1, by simpa using this.2⟩

theorem goodT_all (W H : Nat) (hW : 0 < W) (hH : 0 < H) (k : Nat) : GoodT W H hW hH (tks W H hW hH k) := by
  unfold GoodT
  rw [tks_length]

/-- What the k-th tile is. -/
theorem tk_split (W H : Nat) (hW : 0 < W) (hH : 0 < H) {k : Nat} (hk : k < W * H) : ∃ x y : Nat, x < W ∧ y < H ∧ k = y * W + x ∧ (tk W H hW hH k).1 = ((x : Int), (y : Int)) := by
  refine ⟨k % W, k / W, Nat.mod_lt k hW, Nat.div_lt_of_lt_mul hk, ?_, ?_⟩
  · rw [Nat.mul_comm]; exact (Nat.div_add_mod k W).symm
  · have := tk_at W H hW hH (Nat.mod_lt k hW) (Nat.div_lt_of_lt_mul hk)
    rw [Nat.mul_comm (k / W) W, Nat.div_add_mod] at this
    exact this

end Go.Proofs.YtpcmcopfdghdgaaGreatDoor

namespace Go.Proofs.YtpcmcopfdghdgaaGreatDoor
open Go.RowKit Go.Shelf

attribute [local go_sem] Oper.semAt_some

/-- The cells of the first tiles of a room that is W wide. -/
def tC (W k : Nat) : List Value := (List.range k).flatMap (fun i => [.int .i8 ((i % W : Nat) : Int), .int .i8 ((i / W : Nat) : Int)])

theorem tC_succ (W : Nat) (hW : 0 < W) {x y : Nat} (hx : x < W) : tC W (y * W + x + 1) = tC W (y * W + x) ++ [.int .i8 (x : Int), .int .i8 (y : Int)] := by
  have e1 : (y * W + x) % W = x := by rw [Nat.mul_comm, Nat.mul_add_mod]; exact Nat.mod_eq_of_lt hx
  have e2 : (y * W + x) / W = y := by rw [Nat.mul_comm, Nat.mul_add_div hW, Nat.div_eq_of_lt hx, Nat.add_zero]
  unfold tC
  rw [List.range_succ, List.flatMap_append, List.flatMap_cons, List.flatMap_nil, List.append_nil, e1, e2]

theorem infoTE : (Tryz.prog.info? 126).map (fun i => (i.zero, i.size, i.bytes)) = some (some (.agg #[.int .i8 0, .int .i8 0]), 2, 2) := by kernel_rfl

theorem owns_bE {W w1 : World} {base s k : Nat} {e : TypeId} {v : Value} {xs : List Value} (h : W.ownsRow base e s v k xs) (hb : Below W.heap.size W w1) : w1.ownsRow base e s v k xs :=
  h.kept (row := none) ⟨hb.os, hb.tape, hb.output, hb.size, fun k hk _ => hb.block k hk⟩ (by cases v.ownBlock <;> simp)

theorem cells_newE (w : World) (cs : Array Value) (t : TypeId) : ∀ j u, cs.toList[j]? = some u → (w.alloc (.cells cs t)).cell? ((⟨w.heap.size, 0, none⟩ : Addr).add j) = some u := by
  intro j u hj
  have e : (⟨w.heap.size, 0, none⟩ : Addr).add j = ⟨w.heap.size, j, none⟩ := by simp [Addr.add]; exact fun h => h.symm
  rw [e, cell_of_row _ _ _ _ _ _ (heap_alloc_new _ _)]
  simpa using hj

end Go.Proofs.YtpcmcopfdghdgaaGreatDoor

namespace Go.Proofs.YtpcmcopfdghdgaaGreatDoor
open Go.ChangeShapes Go.WideShapes Go.ChangeAt Go.RowKit Go.Deep Go.Joins

attribute [local go_sem] run_store_floatE



theorem zbelE (V : World) (o : Obj) (cs : Array Value) : Below V.heap.size V ((V.alloc o).setRow V.heap.size cs) := below_setRow ((Below.refl _ _).alloc (Nat.le_refl _) _) (Nat.le_refl _) _

end Go.Proofs.YtpcmcopfdghdgaaGreatDoor

namespace Go.Proofs.YtpcmcopfdghdgaaGreatDoor
open Go.RowKit Go.Shelf

attribute [local go_sem] Oper.semAt_some run_store_floatE

def sumM (g : Nat → Nat) (k : Nat) : Nat := (List.range k).foldl (fun s i => fadd s (g i)) 0

theorem sumM_succ (g : Nat → Nat) (k : Nat) : sumM g (k + 1) = fadd (sumM g k) (g k) := by simp [sumM, List.range_succ]

def capM (k : Nat) : Nat := floatOfInt .f32 ((12 * k : Nat) : Int)

theorem capM_dec : ∀ k : Nat, k < 101 → capM k < 2139095040 ∧ fadd (capM k) (floatOfInt .f32 (12 : Int)) = capM (k + 1) := by decide +kernel

theorem cap12 : floatOfInt .f32 (12 : Int) < 2139095040 := by decide +kernel

theorem sumM_step {s x k : Nat} (hs : s ≤ capM k) (hk : k < 100) (hx : x ≤ floatOfInt .f32 (12 : Int)) : floatBits .add .f32 s x = some (fadd s x) ∧ fadd s x ≤ capM (k + 1) := by
  obtain ⟨c1, c2⟩ := capM_dec k (by omega)
  have h12 := cap12
  exact ⟨(add_rnd (by omega) (by omega)).1, by rw [← c2]; exact add_mono c1 h12 hs hx⟩

theorem sumM_cap (g : Nat → Nat) : ∀ k, k ≤ 100 → (∀ j, j < k → g j ≤ floatOfInt .f32 (12 : Int)) → sumM g k ≤ capM k
  | 0, _, _ => by show (0 : Nat) ≤ _; exact Nat.zero_le _
  | k + 1, hk, h => by
    rw [sumM_succ]
    exact (sumM_step (sumM_cap g k (by omega) (fun j hj => h j (by omega))) (by omega) (h k (by omega))).2

def meanM (s n : Nat) : Nat := fdiv s (floatOfInt .f32 ((n : Nat) : Int))

theorem meanM_ok {s k n : Nat} (hs : s ≤ capM k) (hk : k ≤ 100) (h0 : 0 < n) (h1 : n ≤ 100) : floatBits .quo .f32 s (floatOfInt .f32 ((n : Nat) : Int)) = some (meanM s n) ∧ fin32 (meanM s n) = true := by
  obtain ⟨c1, _⟩ := capM_dec k (by omega)
  obtain ⟨m, rfl⟩ : ∃ m, n = m + 1 := ⟨n - 1, by omega⟩
  obtain ⟨d1, d2⟩ := whole_nat m (by omega)
  have e : ((m + 1 : Nat) : Int) = (m : Int) + 1 := by omega
  unfold meanM
  rw [e]
  refine ⟨(div_rnd (by omega) d1 (by omega)).1, fin_of_lt (Nat.lt_of_le_of_lt (div_mono (x := s) (X := capM k) (Y := 1065353216) c1 d1 (by decide) hs d2) ?_)⟩
  have h : ∀ k : Nat, k < 101 → fdiv (capM k) 1065353216 < 2139095040 := by decide +kernel
  exact h k (by omega)

theorem mpK_get (g : Int × Int → Nat) (W H : Nat) {x y : Nat} (hW1 : W ≤ 10) (hH1 : H ≤ 10) (hx : x < W) (hy : y < H) : (mpK g W H (W * H))[y * 10 + x]?.getD 0 = g ((x : Int), (y : Int)) := by
  have e1 : (y * 10 + x) % 10 = x := by omega
  have e2 : (y * 10 + x) / 10 = y := by omega
  have hk : y * W + x < W * H := by
    have h2 : (y + 1) * W ≤ H * W := Nat.mul_le_mul_right W (by omega)
    rw [Nat.add_mul, Nat.one_mul] at h2
    rw [Nat.mul_comm W H]
    omega
  unfold mpK
  rw [List.getElem?_map, List.getElem?_range (by omega : y * 10 + x < 100)]
  simp only [Option.map_some, Option.getD_some, e1, e2]
  rw [if_pos ⟨hx, hy, hk⟩]

end Go.Proofs.YtpcmcopfdghdgaaGreatDoor

namespace Go.Proofs.YtpcmcopfdghdgaaGreatDoor
open Go.RowKit Go.Shelf

attribute [local go_sem] Oper.semAt_some run_store_floatE

def u16s (xs : List Int) : Array Value := (xs.map (Value.int .u16)).toArray

theorem u16s_size (xs : List Int) : (u16s xs).size = xs.length := by simp [u16s]

theorem u16s_cell {V : World} {g : Nat} {xs : List Int} {t : TypeId} {fr : Nat × Nat} (hg : V.heap[g]? = some (.cells (u16s xs) t fr)) (k : Nat) (h : k < xs.length) : V.cell? ⟨g, k, none⟩ = some (.int .u16 (xs[k]?.getD 0)) := by
  rw [cell_of_row V _ _ _ _ _ hg]
  simp [u16s, h]

theorem u16s_set (xs : List Int) (k : Nat) (n : Int) : (u16s xs).setIfInBounds k (.int .u16 n) = u16s (xs.set k n) := by
  apply Array.ext'
  simp [u16s, List.map_set]

theorem u16s_one (xs : List Int) : ∀ v ∈ u16s xs, v.oneCell' = true := by
  intro v hv
  simp only [u16s, List.mem_toArray, List.mem_map] at hv
  obtain ⟨x, _, rfl⟩ := hv
  rfl

theorem u16s_all (xs : List Int) (n : Nat) (h : xs.length = n) : (u16s xs).extract 0 (0 + n) = u16s xs := by
  rw [Nat.zero_add, ← h, ← u16s_size, Array.extract_size]



def zU : List Int := [0, 0, 0, 0, 0, 0, 0, 0, 0, 0]

theorem zU_len : zU.length = 10 := rfl

/-- The bits of lit tiles, as far as they have been looked at. -/
def litN (P : Nat → Bool) (W : Nat) : Nat → List Int
  | 0 => zU
  | k + 1 => if P k then (litN P W k).set (k / W) (bits .or .u16 ((litN P W k)[k / W]?.getD 0) ((2 : Int) ^ (k % W))) else litN P W k

theorem litN_len (P : Nat → Bool) (W : Nat) : ∀ k, (litN P W k).length = 10
  | 0 => rfl
  | k + 1 => by
    rw [litN]
    split
    · rw [List.length_set]; exact litN_len P W k
    · exact litN_len P W k

theorem litN_at {P : Nat → Bool} {W x y : Nat} (hW : 0 < W) (hx : x < W) : litN P W (y * W + x + 1) = if P (y * W + x) then (litN P W (y * W + x)).set y (bits .or .u16 ((litN P W (y * W + x))[y]?.getD 0) ((2 : Int) ^ x)) else litN P W (y * W + x) := by
  have e1 : (y * W + x) % W = x := by rw [Nat.mul_comm, Nat.mul_add_mod]; exact Nat.mod_eq_of_lt hx
  have e2 : (y * W + x) / W = y := by rw [Nat.mul_comm, Nat.mul_add_div hW, Nat.div_eq_of_lt hx, Nat.add_zero]
  rw [litN, e1, e2]

/-- Whether a light is enough. -/
def enB (least x : Nat) : Bool := FloatKind.f32.format.order x least == some .gt || FloatKind.f32.format.order x least == some .eq

theorem pow16 {x : Nat} (h : x < 10) : IntKind.u16.wrap ((2 : Int) ^ x) = (2 : Int) ^ x := by
  have h2 : ∀ x : Nat, x < 10 → IntKind.u16.wrap ((2 : Int) ^ x) = (2 : Int) ^ x := by decide +kernel
  exact h2 x h

end Go.Proofs.YtpcmcopfdghdgaaGreatDoor

namespace Go.Proofs.YtpcmcopfdghdgaaGreatDoor
open Go.ChangeShapes Go.WideShapes Go.ChangeAt Go.RowKit Go.Deep Go.Joins

attribute [local go_sem] run_store_floatE

theorem fin_iffT {b : Nat} : (FloatKind.f32.format.order b b = some .eq ∧ fin32 b = true) ∨ (FloatKind.f32.format.order b b = none ∧ fin32 b = false) := by
  unfold fin32
  show ((Ieee.single.read b).order (Ieee.single.read b) = some .eq ∧ _) ∨ _
  generalize hd : Ieee.single.read b = d
  have e : FloatKind.f32.format.order b b = d.order d := by show (Ieee.single.read b).order (Ieee.single.read b) = _; rw [hd]
  rw [e]
  cases d with
  | number s m e => left; simp [Ieee.Datum.order, Ieee.Datum.isNaN]
  | infinity s => left; simp [Ieee.Datum.order, Ieee.Datum.isNaN]
  | nan s f => right; exact ⟨rfl, rfl⟩

theorem wpList_buildTT {P : Program} {ops : Array Oper} {rest : List Oper} {o : Oper} {a : Act} {w : World} {Q : Exit → Act → World → Prop} (hg : o.guard = none) (t : TypeId) (parts : Array (Nat × Operand)) (ho : o.op = .build t parts)
    (d : Option Tmp) (hd : o.dst = d) (l : List (Nat × Value)) (hp : parts.toList.map (fun x => (x.1, a.eval x.2)) = l) (cells : Array Value) (hf : P.built t l = some cells)
    (h : wpList P ops Q rest (a.put d (.agg cells)) w) : wpList P ops Q (o :: rest) a w := by
  refine wpList_buildTo hg t parts ho d hd cells ?_ h
  rw [Array.toList_map, ← hf, ← hp]

end Go.Proofs.YtpcmcopfdghdgaaGreatDoor

namespace Go.Proofs.YtpcmcopfdghdgaaGreatDoor
open Go.RowKit

attribute [local go_sem] run_store_f

/-- The glare of a desk; that of a desk of a list. -/
def dkG (wd hg : Int) (ws : List Wn) (x : Dk) : Nat := litW wd hg (x.1, x.2.1) (glW wd hg x.1 x.2.1 x.2.2) ws

def gdN (wd hg : Int) (ws : List Wn) (ds : List Dk) (k : Nat) : Nat :=
  match ds[k]? with
  | some x => dkG wd hg ws x
  | none => 0

/-- The bits of the desks with too much glare, as far as they have been looked at. -/
def gbN (d : Nat → Nat) (bd : Nat) : Nat → Int
  | 0 => 0
  | k + 1 => if FloatKind.f32.format.order (d k) bd == some .gt then bits .or .u16 (gbN d bd k) ((2 : Int) ^ k) else gbN d bd k

theorem gbN_hit {d : Nat → Nat} {bd k : Nat} (h : (FloatKind.f32.format.order (d k) bd == some .gt) = true) : gbN d bd (k + 1) = bits .or .u16 (gbN d bd k) ((2 : Int) ^ k) := by
  rw [gbN, if_pos h]

theorem gbN_miss {d : Nat → Nat} {bd k : Nat} (h : (FloatKind.f32.format.order (d k) bd == some .gt) = false) : gbN d bd (k + 1) = gbN d bd k := by
  rw [gbN, if_neg (by rw [h]; decide)]

/-- A desk's place is one of a room. -/
theorem fitD_get {wd hg : Int} {x : Dk} (h : fitD wd hg x = true) : inRoom wd hg (x.1, x.2.1) ∧ 0 ≤ x.2.2 ∧ x.2.2 ≤ 3 := by
  unfold fitD isD inI at h
  rw [Bool.and_eq_true, Bool.and_eq_true, decide_eq_true_iff, decide_eq_true_iff] at h
  exact ⟨isT_get h.1, h.2.1, h.2.2⟩

theorem glareDk_any (wd hg : Int) (sv : Value) (ws : List Wn) (ok : RmOk wd hg ws) (hwf : ∀ x ∈ ws, WnWf x) (x : Dk) (hx : fitD wd hg x = true) (w : World) (hws : WinsAt w sv ws) :
    Calls Tryz.prog 166 #[.agg (roomC wd hg sv), .agg (dkC x)] w fun e w' => e = .returned (.float .f32 (dkG wd hg ws x)) ∧ Below w.heap.size w w' := by
  obtain ⟨h1, h2, h3⟩ := fitD_get hx
  exact glareAt_any wd hg sv ws ok hwf x.1 x.2.1 x.2.2 h1 h2 h3 w hws

theorem gbZ (V : World) (o : Obj) (cs : Array Value) : Below V.heap.size V ((V.alloc o).setRow V.heap.size cs) := below_setRow ((Below.refl _ _).alloc (Nat.le_refl _) _) (Nat.le_refl _) _

/-- The code that a list of desks and a bound are refused with. -/
def codeG (ok num all : Bool) (n : Nat) : Int := if !ok then 1 else if !(num && all) then 2 else if 8 < n then 3 else 0

end Go.Proofs.YtpcmcopfdghdgaaGreatDoor

namespace Go.Proofs.YtpcmcopfdghdgaaGreatDoor
open Go.RowKit Go.Deep

attribute [local go_sem] run_store_f

/-- The bits of the first persons for whom something holds. -/
def pbN (f : Nat → Bool) : Nat → Int
  | 0 => 0
  | k + 1 => if f k then bits .or .u16 (pbN f k) ((2 : Int) ^ k) else pbN f k

theorem pbN_hit {f : Nat → Bool} {k : Nat} (h : f k = true) : pbN f (k + 1) = bits .or .u16 (pbN f k) ((2 : Int) ^ k) := by rw [pbN, if_pos h]

theorem pbN_miss {f : Nat → Bool} {k : Nat} (h : f k = false) : pbN f (k + 1) = pbN f k := by rw [pbN, if_neg (by rw [h]; decide)]

/-- Whom so much light and so much glare suit, in a list. -/
def suL (li gr : Nat) (ps : List Pn) (k : Nat) : Bool :=
  match ps[k]? with
  | some x => suB li gr x.1 x.2.1 x.2.2
  | none => false

theorem sbZ (V : World) (o : Obj) (cs : Array Value) : Below V.heap.size V ((V.alloc o).setRow V.heap.size cs) := below_setRow ((Below.refl _ _).alloc (Nat.le_refl _) _) (Nat.le_refl _) _

theorem pn_cells {x : Pn} {W : World} {b : Nat} {T : TypeId} {fr : Nat × Nat} (h : W.heap[b]? = some (.cells (pnC x) T fr)) :
    W.cell? ⟨b, 0, none⟩ = some (.float .f32 x.1) ∧ W.cell? ⟨b, 1, none⟩ = some (.float .f32 x.2.1) ∧ W.cell? ⟨b, 2, none⟩ = some (.float .f32 x.2.2) := pers_cells h

theorem pow16S {k : Nat} (h : k < 10) : IntKind.u16.wrap ((2 : Int) ^ k) = (2 : Int) ^ k := by
  have : ∀ k : Nat, k < 10 → IntKind.u16.wrap ((2 : Int) ^ k) = (2 : Int) ^ k := by decide
  exact this k h

set_option maxRecDepth 100000 in
set_option maxHeartbeats 8000000 in
theorem suited_any (wd hg : Int) (sv pv : Value) (ws : List Wn) (ok : RmOk wd hg ws) (hwf : ∀ x ∈ ws, WnWf x) (a1 a2 a3 : Int) (ha : inRoom wd hg (a1, a2)) (l0 : 0 ≤ a3) (l3 : a3 ≤ 3) (ps : List Pn) (hlen : ps.length ≤ 8) (w : World) (hws : WinsAt w sv ws) (hps : PnsAt w pv ps) :
    Calls Tryz.prog 125 #[.agg (roomC wd hg sv), .agg (deskC a1 a2 a3), pv] w fun e w' => e = .returned (.int .u16 (pbN (suL (litW wd hg (a1, a2) (fun _ => true) ws) (litW wd hg (a1, a2) (glW wd hg a1 a2 a3) ws) ps) ps.length)) ∧ Below w.heap.size w w' := by
  have HL := Lib.hid (fun W (h : WinsAt W sv ws) => lightAt_any wd hg sv ws ok hwf a1 a2 ha W h)
  have HG := Lib.hid (fun W (h : WinsAt W sv ws) => glareAt_any wd hg sv ws ok hwf a1 a2 a3 ha l0 l3 W h)
  have HV := Lib.hid hws
  have HP0 := Lib.hid hps
  obtain ⟨pa, pc, rfl, -, -, -⟩ := hps
  generalize litW wd hg (a1, a2) (fun _ => true) ws = li at *
  generalize litW wd hg (a1, a2) (glW wd hg a1 a2 a3) ws = gr at *
  clear ok hwf ha l0 l3 hws
  generalize hnn : ps.length = n at *
  have HN := Lib.hid hnn
  clear hnn
  go_enter Tryz.func125, Tryz.ntmps125
  go_upto_region 1 with (fail)
  refine abs_world (fun W => W.heap[w.heap.size]? = some (.cells (roomC wd hg sv) 70 (0, 0)) ∧ W.heap[w.heap.size + 1]? = some (.cells (deskC a1 a2 a3) 128 (0, 0)) ∧ Below w.heap.size w W) (box2 w (.cells (roomC wd hg sv) 70) (.cells (deskC a1 a2 a3) 128)) ?_
  rintro W ⟨h0, h1, hb⟩
  generalize w.heap.size + 1 = b1 at *
  have H0 := Lib.hid h0
  have H1 := Lib.hid h1
  replace HV := Lib.hid (wins_below HV.out hb)
  clear h0 h1
  refine wp_region_held_drew (S := (fun V => Below W.heap.size W V)) (by kernel_rfl) ((Below.refl _ _).drew) (fun hHeld => ?_)
  refine take_op (i := 0) (d := 12) (v := .agg (roomC wd hg sv)) rfl rfl (by kernel_rfl) (by kernel_rfl) (by kernel_rfl) (fun _ _ _ h => h) (yields_row (by rfl) 70 (.tmp 3) (by rfl) w.heap.size 0 3 (by rfl) 70 (roomC wd hg sv) (0, 0) _ (fun _ h => below_row h H0.out) Tryz.underlying70 rfl info_room (room_fits _ _ _) (roomC wd hg sv) (room_all _ _ _)) hHeld ?_
  simp only [List.setIfInBounds_toArray, List.set_cons_zero, List.set_cons_succ]
  refine take_op (i := 1) (d := 13) (v := ?_) rfl rfl (by kernel_rfl) (by kernel_rfl) (by kernel_rfl) (fun _ _ _ h => h) (Or.inl ⟨by rfl, ?hy1u1⟩) hHeld ?rest1u1
  case hy1u1 =>
    intro w' hS'
    go_simp
    try with_reducible rfl
  simp only [List.setIfInBounds_toArray, List.set_cons_zero, List.set_cons_succ]
  refine take_op (i := 2) (d := 14) (v := .agg (tileC a1 a2)) rfl rfl (by kernel_rfl) (by kernel_rfl) (by kernel_rfl) (fun _ _ _ h => h) (yields_row (by rfl) 126 (.tmp 13) (by rfl) b1 0 2 (by rfl) 128 (deskC a1 a2 a3) (0, 0) _ (fun _ h => below_row h H1.out) Tryz.underlying126 rfl info_tile (desk_fits2 _ _ _) (tileC a1 a2) (desk_tile _ _ _)) hHeld ?_
  simp only [List.setIfInBounds_toArray, List.set_cons_zero, List.set_cons_succ]
  refine take_op (i := 4) (d := 16) (v := .agg (roomC wd hg sv)) rfl rfl (by kernel_rfl) (by kernel_rfl) (by kernel_rfl) (fun _ _ _ h => h) (yields_row (by rfl) 70 (.tmp 3) (by rfl) w.heap.size 0 3 (by rfl) 70 (roomC wd hg sv) (0, 0) _ (fun _ h => below_row h H0.out) Tryz.underlying70 rfl info_room (room_fits _ _ _) (roomC wd hg sv) (room_all _ _ _)) hHeld ?_
  simp only [List.setIfInBounds_toArray, List.set_cons_zero, List.set_cons_succ]
  refine take_op (i := 5) (d := 17) (v := .agg (deskC a1 a2 a3)) rfl rfl (by kernel_rfl) (by kernel_rfl) (by kernel_rfl) (fun _ _ _ h => h) (yields_row (by rfl) 128 (.tmp 4) (by rfl) b1 0 3 (by rfl) 128 (deskC a1 a2 a3) (0, 0) _ (fun _ h => below_row h H1.out) Tryz.underlying128 rfl info_desk (desk_fits _ _ _) (deskC a1 a2 a3) (desk_all _ _ _)) hHeld ?_
  simp only [List.setIfInBounds_toArray, List.set_cons_zero, List.set_cons_succ]
  refine wpAnyH_ready (rs := [3]) (by kernel_rfl) (by simp) ?_
  refine AllReadyH.cons rfl (fun K hK => ?_) AllReadyH.nil
  go_simp
  refine (HL.out _ (wins_below HV.out hHeld)).mono ?_
  rintro e W1 ⟨rfl, hb1⟩
  refine hK.out _ _ (hHeld.trans (hb1.mono hHeld.size)) (fun hHeld2 => ?_)
  clear hK K
  replace hHeld := hHeld2
  clear hHeld2
  clear hb1
  refine wpAnyH_ready (rs := [6]) (by kernel_rfl) (by simp) ?_
  refine AllReadyH.cons rfl (fun K hK => ?_) AllReadyH.nil
  go_simp
  refine (HG.out _ (wins_below HV.out hHeld)).mono ?_
  rintro e W2 ⟨rfl, hb2⟩
  refine hK.out _ _ (hHeld.trans (hb2.mono hHeld.size)) (fun hHeld2 => ?_)
  clear hK K
  replace hHeld := hHeld2
  clear hHeld2
  clear hb2
  refine take_op (i := 7) (d := 7) (v := ?_) rfl rfl (by kernel_rfl) (by kernel_rfl) (by kernel_rfl) (fun _ _ _ h => h) (Or.inl ⟨by rfl, ?hy7u2⟩) hHeld ?rest7u2
  case hy7u2 =>
    intro w' hS'
    go_simp
    try with_reducible rfl
  simp only [List.setIfInBounds_toArray, List.set_cons_zero, List.set_cons_succ]
  refine take_op (i := 8) (d := 8) (v := ?_) rfl rfl (by kernel_rfl) (by kernel_rfl) (by kernel_rfl) (fun _ _ _ h => h) (Or.inl ⟨by rfl, ?hy8u3⟩) hHeld ?rest8u3
  case hy8u3 =>
    intro w' hS'
    go_simp
    try with_reducible rfl
  simp only [List.setIfInBounds_toArray, List.set_cons_zero, List.set_cons_succ]
  refine wpAnyH_done (by kernel_rfl) ?_ _
  replace H0 := Lib.hid (below_row hHeld H0.out)
  replace H1 := Lib.hid (below_row hHeld H1.out)
  replace HV := Lib.hid (wins_below HV.out hHeld)
  replace hb := hb.trans (hHeld.mono hb.size)
  clear hHeld
  clear H0 H1 HV HL HG
  go_upto_region 4 with (fail)
  go_loopw [9, 21] (fun a i wr => ∃ k : Nat, k ≤ n ∧ i = .int .i64 (k : Int) ∧ a = .int .u16 (pbN (suL li gr ps) k) ∧ Below w.heap.size w wr) (fun _ i _ => n - (intOf i).toNat)
  case atStart => exact ⟨0, Nat.zero_le _, rfl, rfl, hb⟩
  case round =>
    clear hb
    obtain ⟨k, hk, rfl, rfl, hbx⟩ := hrel
    by_cases hlt : k < n
    · have hx : ps[k]? = some (ps[k]'(by rw [HN.out]; exact hlt)) := List.getElem?_eq_getElem _
      obtain ⟨g, o, rfl, hc⟩ := pn_at (pns_below HP0.out hbx) hx
      have HCl := Lib.hid hc
      have HSU : Hid (suL li gr ps k = suB li gr (ps[k]'(by rw [HN.out]; exact hlt)).1 (ps[k]'(by rw [HN.out]; exact hlt)).2.1 (ps[k]'(by rw [HN.out]; exact hlt)).2.2) := Lib.hid (by unfold suL; rw [hx])
      generalize (ps[k]'(by rw [HN.out]; exact hlt)) = x at *
      have z1 : (k : Int) < (n : Int) := by omega
      have z2 : (0 : Int) ≤ (k : Int) := by omega
      have z3 : IntKind.i64.wrap (k : Int) = (k : Int) := by rw [IntWalk.i64_in _ (by omega)]
      have hpw := pow16S (show k < 10 by omega)
      have hpw2 : (2 : Int) ^ k % 65536 = (2 : Int) ^ k := hpw
      clear hc hx
      go_upto_region 6 with (first | (refine wpList_load_cells rfl 134 _ rfl g (o + k * 3) 3 rfl _ Tryz.underlying134 rfl info_pers (pnC x) rfl HCl.out ?_) | (refine wpList_store_part rfl 134 _ _ rfl _ 0 (pnC x) rfl rfl 134 _ (heap_alloc_new _ _) info_pers (Nat.le_refl _) (pn_one _) ?_; rw [laid_allr _ _ (by rfl)]))
      refine abs_world (fun X => X.heap[wr.heap.size]? = some (.cells (pnC x) 134 (0, 0)) ∧ Below w.heap.size w X) ⟨setRow_heap _ _ _ _ _ _ (heap_alloc_new _ _), hbx.trans ((sbZ _ _ _).mono hbx.size)⟩ ?_
      clear hbx
      generalize wr.heap.size = pb at *
      rintro X ⟨h1x, hbx⟩
      obtain ⟨p0, p1, p2⟩ := pn_cells h1x
      clear h1x
      rcases h0 : FloatKind.f32.format.order li x.1 with _ | (_ | _ | _)
      · have HFk : Hid (suL li gr ps k = false) := Lib.hid (by rw [HSU.out]; unfold suB ge0 le0; rw [h0]; simp)
        have HE := Lib.hid (pbN_miss HFk.out)
        clear HSU HFk
        generalize pbN (suL li gr ps) k = ac at *
        go_wp2
        go_roundw
        case rel => exact ⟨k + 1, by omega, by go_num, by rw [HE.out], hbx⟩
        case measure => simp [intOf]; omega
      · have HFk : Hid (suL li gr ps k = false) := Lib.hid (by rw [HSU.out]; unfold suB ge0 le0; rw [h0]; simp)
        have HE := Lib.hid (pbN_miss HFk.out)
        clear HSU HFk
        generalize pbN (suL li gr ps) k = ac at *
        go_wp2
        go_roundw
        case rel => exact ⟨k + 1, by omega, by go_num, by rw [HE.out], hbx⟩
        case measure => simp [intOf]; omega
      · rcases h1 : FloatKind.f32.format.order li x.2.1 with _ | (_ | _ | _)
        · have HFk : Hid (suL li gr ps k = false) := Lib.hid (by rw [HSU.out]; unfold suB ge0 le0; rw [h0]; rw [h1]; simp)
          have HE := Lib.hid (pbN_miss HFk.out)
          clear HSU HFk
          generalize pbN (suL li gr ps) k = ac at *
          go_wp2
          go_roundw
          case rel => exact ⟨k + 1, by omega, by go_num, by rw [HE.out], hbx⟩
          case measure => simp [intOf]; omega
        · rcases h2 : FloatKind.f32.format.order gr x.2.2 with _ | (_ | _ | _)
          · have HFk : Hid (suL li gr ps k = false) := Lib.hid (by rw [HSU.out]; unfold suB ge0 le0; rw [h0]; rw [h1]; rw [h2]; simp)
            have HE := Lib.hid (pbN_miss HFk.out)
            clear HSU HFk
            generalize pbN (suL li gr ps) k = ac at *
            go_wp2
            go_roundw
            case rel => exact ⟨k + 1, by omega, by go_num, by rw [HE.out], hbx⟩
            case measure => simp [intOf]; omega
          · have HFk : Hid (suL li gr ps k = true) := Lib.hid (by rw [HSU.out]; unfold suB ge0 le0; rw [h0]; rw [h1]; rw [h2]; simp)
            have HE := Lib.hid (pbN_hit HFk.out)
            clear HSU HFk
            generalize pbN (suL li gr ps) k = ac at *
            go_wp2
            go_roundw
            case rel => exact ⟨k + 1, by omega, by go_num, by rw [HE.out], hbx⟩
            case measure => simp [intOf]; omega
          · have HFk : Hid (suL li gr ps k = true) := Lib.hid (by rw [HSU.out]; unfold suB ge0 le0; rw [h0]; rw [h1]; rw [h2]; simp)
            have HE := Lib.hid (pbN_hit HFk.out)
            clear HSU HFk
            generalize pbN (suL li gr ps) k = ac at *
            go_wp2
            go_roundw
            case rel => exact ⟨k + 1, by omega, by go_num, by rw [HE.out], hbx⟩
            case measure => simp [intOf]; omega
          · have HFk : Hid (suL li gr ps k = false) := Lib.hid (by rw [HSU.out]; unfold suB ge0 le0; rw [h0]; rw [h1]; rw [h2]; simp)
            have HE := Lib.hid (pbN_miss HFk.out)
            clear HSU HFk
            generalize pbN (suL li gr ps) k = ac at *
            go_wp2
            go_roundw
            case rel => exact ⟨k + 1, by omega, by go_num, by rw [HE.out], hbx⟩
            case measure => simp [intOf]; omega
        · rcases h2 : FloatKind.f32.format.order gr x.2.2 with _ | (_ | _ | _)
          · have HFk : Hid (suL li gr ps k = false) := Lib.hid (by rw [HSU.out]; unfold suB ge0 le0; rw [h0]; rw [h1]; rw [h2]; simp)
            have HE := Lib.hid (pbN_miss HFk.out)
            clear HSU HFk
            generalize pbN (suL li gr ps) k = ac at *
            go_wp2
            go_roundw
            case rel => exact ⟨k + 1, by omega, by go_num, by rw [HE.out], hbx⟩
            case measure => simp [intOf]; omega
          · have HFk : Hid (suL li gr ps k = true) := Lib.hid (by rw [HSU.out]; unfold suB ge0 le0; rw [h0]; rw [h1]; rw [h2]; simp)
            have HE := Lib.hid (pbN_hit HFk.out)
            clear HSU HFk
            generalize pbN (suL li gr ps) k = ac at *
            go_wp2
            go_roundw
            case rel => exact ⟨k + 1, by omega, by go_num, by rw [HE.out], hbx⟩
            case measure => simp [intOf]; omega
          · have HFk : Hid (suL li gr ps k = true) := Lib.hid (by rw [HSU.out]; unfold suB ge0 le0; rw [h0]; rw [h1]; rw [h2]; simp)
            have HE := Lib.hid (pbN_hit HFk.out)
            clear HSU HFk
            generalize pbN (suL li gr ps) k = ac at *
            go_wp2
            go_roundw
            case rel => exact ⟨k + 1, by omega, by go_num, by rw [HE.out], hbx⟩
            case measure => simp [intOf]; omega
          · have HFk : Hid (suL li gr ps k = false) := Lib.hid (by rw [HSU.out]; unfold suB ge0 le0; rw [h0]; rw [h1]; rw [h2]; simp)
            have HE := Lib.hid (pbN_miss HFk.out)
            clear HSU HFk
            generalize pbN (suL li gr ps) k = ac at *
            go_wp2
            go_roundw
            case rel => exact ⟨k + 1, by omega, by go_num, by rw [HE.out], hbx⟩
            case measure => simp [intOf]; omega
        · have HFk : Hid (suL li gr ps k = false) := Lib.hid (by rw [HSU.out]; unfold suB ge0 le0; rw [h0]; rw [h1]; simp)
          have HE := Lib.hid (pbN_miss HFk.out)
          clear HSU HFk
          generalize pbN (suL li gr ps) k = ac at *
          go_wp2
          go_roundw
          case rel => exact ⟨k + 1, by omega, by go_num, by rw [HE.out], hbx⟩
          case measure => simp [intOf]; omega
      · rcases h1 : FloatKind.f32.format.order li x.2.1 with _ | (_ | _ | _)
        · have HFk : Hid (suL li gr ps k = false) := Lib.hid (by rw [HSU.out]; unfold suB ge0 le0; rw [h0]; rw [h1]; simp)
          have HE := Lib.hid (pbN_miss HFk.out)
          clear HSU HFk
          generalize pbN (suL li gr ps) k = ac at *
          go_wp2
          go_roundw
          case rel => exact ⟨k + 1, by omega, by go_num, by rw [HE.out], hbx⟩
          case measure => simp [intOf]; omega
        · rcases h2 : FloatKind.f32.format.order gr x.2.2 with _ | (_ | _ | _)
          · have HFk : Hid (suL li gr ps k = false) := Lib.hid (by rw [HSU.out]; unfold suB ge0 le0; rw [h0]; rw [h1]; rw [h2]; simp)
            have HE := Lib.hid (pbN_miss HFk.out)
            clear HSU HFk
            generalize pbN (suL li gr ps) k = ac at *
            go_wp2
            go_roundw
            case rel => exact ⟨k + 1, by omega, by go_num, by rw [HE.out], hbx⟩
            case measure => simp [intOf]; omega
          · have HFk : Hid (suL li gr ps k = true) := Lib.hid (by rw [HSU.out]; unfold suB ge0 le0; rw [h0]; rw [h1]; rw [h2]; simp)
            have HE := Lib.hid (pbN_hit HFk.out)
            clear HSU HFk
            generalize pbN (suL li gr ps) k = ac at *
            go_wp2
            go_roundw
            case rel => exact ⟨k + 1, by omega, by go_num, by rw [HE.out], hbx⟩
            case measure => simp [intOf]; omega
          · have HFk : Hid (suL li gr ps k = true) := Lib.hid (by rw [HSU.out]; unfold suB ge0 le0; rw [h0]; rw [h1]; rw [h2]; simp)
            have HE := Lib.hid (pbN_hit HFk.out)
            clear HSU HFk
            generalize pbN (suL li gr ps) k = ac at *
            go_wp2
            go_roundw
            case rel => exact ⟨k + 1, by omega, by go_num, by rw [HE.out], hbx⟩
            case measure => simp [intOf]; omega
          · have HFk : Hid (suL li gr ps k = false) := Lib.hid (by rw [HSU.out]; unfold suB ge0 le0; rw [h0]; rw [h1]; rw [h2]; simp)
            have HE := Lib.hid (pbN_miss HFk.out)
            clear HSU HFk
            generalize pbN (suL li gr ps) k = ac at *
            go_wp2
            go_roundw
            case rel => exact ⟨k + 1, by omega, by go_num, by rw [HE.out], hbx⟩
            case measure => simp [intOf]; omega
        · rcases h2 : FloatKind.f32.format.order gr x.2.2 with _ | (_ | _ | _)
          · have HFk : Hid (suL li gr ps k = false) := Lib.hid (by rw [HSU.out]; unfold suB ge0 le0; rw [h0]; rw [h1]; rw [h2]; simp)
            have HE := Lib.hid (pbN_miss HFk.out)
            clear HSU HFk
            generalize pbN (suL li gr ps) k = ac at *
            go_wp2
            go_roundw
            case rel => exact ⟨k + 1, by omega, by go_num, by rw [HE.out], hbx⟩
            case measure => simp [intOf]; omega
          · have HFk : Hid (suL li gr ps k = true) := Lib.hid (by rw [HSU.out]; unfold suB ge0 le0; rw [h0]; rw [h1]; rw [h2]; simp)
            have HE := Lib.hid (pbN_hit HFk.out)
            clear HSU HFk
            generalize pbN (suL li gr ps) k = ac at *
            go_wp2
            go_roundw
            case rel => exact ⟨k + 1, by omega, by go_num, by rw [HE.out], hbx⟩
            case measure => simp [intOf]; omega
          · have HFk : Hid (suL li gr ps k = true) := Lib.hid (by rw [HSU.out]; unfold suB ge0 le0; rw [h0]; rw [h1]; rw [h2]; simp)
            have HE := Lib.hid (pbN_hit HFk.out)
            clear HSU HFk
            generalize pbN (suL li gr ps) k = ac at *
            go_wp2
            go_roundw
            case rel => exact ⟨k + 1, by omega, by go_num, by rw [HE.out], hbx⟩
            case measure => simp [intOf]; omega
          · have HFk : Hid (suL li gr ps k = false) := Lib.hid (by rw [HSU.out]; unfold suB ge0 le0; rw [h0]; rw [h1]; rw [h2]; simp)
            have HE := Lib.hid (pbN_miss HFk.out)
            clear HSU HFk
            generalize pbN (suL li gr ps) k = ac at *
            go_wp2
            go_roundw
            case rel => exact ⟨k + 1, by omega, by go_num, by rw [HE.out], hbx⟩
            case measure => simp [intOf]; omega
        · have HFk : Hid (suL li gr ps k = false) := Lib.hid (by rw [HSU.out]; unfold suB ge0 le0; rw [h0]; rw [h1]; simp)
          have HE := Lib.hid (pbN_miss HFk.out)
          clear HSU HFk
          generalize pbN (suL li gr ps) k = ac at *
          go_wp2
          go_roundw
          case rel => exact ⟨k + 1, by omega, by go_num, by rw [HE.out], hbx⟩
          case measure => simp [intOf]; omega
    · obtain rfl : k = n := by omega
      go_wp2
      go_ret
      exact ⟨rfl, hbx⟩

end Go.Proofs.YtpcmcopfdghdgaaGreatDoor

namespace Go.Proofs.YtpcmcopfdghdgaaGreatDoor
open Go.RowKit

attribute [local go_sem] run_store_f

theorem wpList_buildRR {P : Program} {ops : Array Oper} {rest : List Oper} {o : Oper} {a : Act} {w : World} {Q : Exit → Act → World → Prop} (hg : o.guard = none) (t : TypeId) (parts : Array (Nat × Operand)) (ho : o.op = .build t parts)
    (d : Option Tmp) (hd : o.dst = d) (l : List (Nat × Value)) (hp : parts.toList.map (fun x => (x.1, a.eval x.2)) = l) (cells : Array Value) (hf : P.built t l = some cells)
    (h : wpList P ops Q rest (a.put d (.agg cells)) w) : wpList P ops Q (o :: rest) a w := by
  refine wpList_buildTo hg t parts ho d hd cells ?_ h
  rw [Array.toList_map, ← hf, ← hp]

theorem built_room (a b : Int) (v : Option Addr) (n c : Nat) : Tryz.prog.built 70 [(0, .int .i8 a), (1, .int .i8 b), (2, .slice v n c)] = some (roomC a b (.slice v n c)) := by kernel_rfl

theorem built_room0 : Tryz.prog.built 70 [] = some (roomC 0 0 (.slice none 0 0)) := by kernel_rfl

theorem room_oneS (wd hg : Int) (a : Option Addr) (n c : Nat) : ∀ u ∈ roomC wd hg (.slice a n c), u.oneCell' = true := by
  intro u hu
  simp only [roomC, List.mem_toArray, List.mem_cons, List.not_mem_nil, or_false] at hu
  rcases hu with rfl | rfl | rfl <;> rfl

theorem rwZ (V : World) (o : Obj) (cs : Array Value) : Below V.heap.size V ((V.alloc o).setRow V.heap.size cs) := below_setRow ((Below.refl _ _).alloc (Nat.le_refl _) _) (Nat.le_refl _) _

end Go.Proofs.YtpcmcopfdghdgaaGreatDoor

namespace Go.Proofs.YtpcmcopfdghdgaaGreatDoor
open Go.ChangeShapes Go.WideShapes Go.ChangeAt Go.RowKit Go.Deep Go.Joins

attribute [local go_sem] run_store_f

/-- Windows that lie at the head of a block of the call's own. -/
def OwnV (w : World) (b : Nat) (v : Value) (ws : List Wn) : Prop :=
  ∃ g cap cur, v = .slice (some ⟨g, 0, none⟩) ws.length cap ∧ b ≤ g ∧ w.heap[g]? = some (.cells cur 174 (0, 0)) ∧ ws.length ≤ cap ∧ cap ≤ maxLen ∧ ws.length * 3 ≤ cur.size ∧ ∀ k x, ws[k]? = some x → cur.extract (k * 3) (k * 3 + 3) = winC x

theorem ownV_below {w w' : World} {b B : Nat} {v : Value} {ws : List Wn} (h : OwnV w b v ws) (hb : Below w.heap.size w w') (hB : B ≤ b) : OwnV w' B v ws := by
  obtain ⟨g, cap, cur, h1, h2, h3, h4, h5, h6, h7⟩ := h
  exact ⟨g, cap, cur, h1, by omega, below_row hb h3, h4, h5, h6, h7⟩

theorem ownV_at {w : World} {b : Nat} {v : Value} {ws : List Wn} (h : OwnV w b v ws) : WinsAt w v ws := by
  obtain ⟨g, cap, cur, rfl, h2, h3, h4, h5, h6, h7⟩ := h
  refine ⟨_, _, rfl, h4, h5, fun k x hx => ⟨g, 0, rfl, ?_, ?_, ?_⟩⟩
  all_goals
    have hk : k < ws.length := (List.getElem?_eq_some_iff.1 hx).1
    have he := h7 k x hx
    rw [cell_of_row w _ _ _ _ _ h3]
  · have : (cur.extract (k * 3) (k * 3 + 3))[0]? = some (.int .i8 x.1) := by rw [he]; rfl
    rw [Array.getElem?_extract] at this
    split at this
    · simpa using this
    · cases this
  · have : (cur.extract (k * 3) (k * 3 + 3))[1]? = some (.int .i8 x.2.1) := by rw [he]; rfl
    rw [Array.getElem?_extract] at this
    split at this
    · simpa using this
    · cases this
  · have : (cur.extract (k * 3) (k * 3 + 3))[2]? = some (.float .f32 x.2.2) := by rw [he]; rfl
    rw [Array.getElem?_extract] at this
    split at this
    · simpa using this
    · cases this

theorem cur_one {ws : List Wn} {cur : Array Value} (hs : cur.size = ws.length * 3) (h : ∀ k x, ws[k]? = some x → cur.extract (k * 3) (k * 3 + 3) = winC x) : ∀ u ∈ cur.toList, u.oneCell' = true := by
  intro u hu
  obtain ⟨j, hj⟩ := List.mem_iff_getElem?.1 hu
  rw [Array.getElem?_toList] at hj
  have hjl := (Array.getElem?_eq_some_iff.1 hj).1
  have hk : j / 3 < ws.length := by omega
  have hx : ws[j / 3]? = some (ws[j / 3]'hk) := List.getElem?_eq_getElem _
  have he := h _ _ hx
  have hm : (cur.extract (j / 3 * 3) (j / 3 * 3 + 3))[j % 3]? = some u := by
    rw [Array.getElem?_extract, if_pos (by omega)]
    rw [show j / 3 * 3 + j % 3 = j from by omega]
    exact hj
  rw [he] at hm
  exact win_one _ u (Array.mem_of_getElem? hm)

theorem run_store_rowR {P : Program} (w : World) (g : Nat) (t : TypeId) (vs old : Array Value) (hg : w.heap[g]? = some (.cells old t (0, 0))) (hs : old.size = vs.size) (h1 : ∀ v ∈ vs, v.oneCell' = true) :
    (storeCells ⟨g, 0, none⟩ vs.toList).run P w = .ok () (w.setRow g vs) := by
  have hst := run_storeCells_at P g 0 t vs.toList 0 old w hg (by simp; omega) (fun v hv => h1 v (by simpa using hv))
  have hl := laid_allr old vs hs
  unfold laid at hl
  simp only [Nat.add_zero] at hst
  rw [hst]
  simp at hl ⊢
  rw [hl]

theorem infoW3 : (Tryz.prog.info? 174).map (fun i => (i.zero, i.size, i.bytes)) = some (some (.agg #[.int .i8 0, .int .i8 0, .float .f32 0]), 3, 8) := by kernel_rfl

end Go.Proofs.YtpcmcopfdghdgaaGreatDoor

namespace Go.Proofs.YtpcmcopfdghdgaaGreatDoor
open Go.ChangeShapes Go.WideShapes Go.ChangeAt Go.RowKit Go.Deep Go.Joins

theorem run_store_flR (P : Program) (w : World) (a : Addr) (k : FloatKind) (b : Nat) (m : Mode) : (store a (.float k b) m).run P w = stored P w a (.float k b) m := run_store P w a _ m rfl

attribute [local go_sem] run_store_f run_store_flR

theorem mark_num_natR : ∀ n : Nat, n < 601 → floatOfInt .f32 (n : Int) < 2139095040 := by decide +kernel

theorem mark_orderR (j : Int) (h0 : 0 ≤ j) (h1 : j ≤ 600) : FloatKind.f32.format.order (floatOfInt .f32 j) (floatOfInt .f32 j) = some .eq := by
  obtain ⟨n, rfl⟩ := Int.eq_ofNat_of_zero_le h0
  have h := mark_num_natR n (by omega)
  rw [order_num (.inl h) (.inl h)]
  simp

theorem cell_kR {W : World} {g k : Nat} {cur : Array Value} {T : TypeId} {x : Value} (hg : W.heap[g]? = some (.cells cur T (0, 0))) (hk : cur[k]? = some x) : W.cell? ⟨g, k, none⟩ = some x := by
  rw [cell_of_row W _ _ _ _ _ hg]; exact hk

theorem sgo {cur : Array Value} {i j : Nat} {v : Value} (h : i ≠ j) : (cur.setIfInBounds i v)[j]? = cur[j]? := by rw [Array.getElem?_setIfInBounds, if_neg h]

theorem sgs {cur : Array Value} {i : Nat} {v : Value} (h : i < cur.size) : (cur.setIfInBounds i v)[i]? = some v := by rw [Array.getElem?_setIfInBounds, if_pos rfl, if_pos h]

/-- Marks in the first windows of a row. -/
def Mk3 (cur : Array Value) (n : Nat) : Prop := ∀ j, j < n → cur[j * 3]? = some (.int .i8 (IntKind.i8.wrap (1 + 3 * (j : Int)))) ∧ cur[j * 3 + 1]? = some (.int .i8 (IntKind.i8.wrap (1 + 3 * (j : Int) + 1))) ∧ cur[j * 3 + 2]? = some (.float .f32 (floatOfInt .f32 (1 + 3 * (j : Int) + 1 + 1)))

/-- All rows but one are as they were. -/
def KeptBut (w wr : World) (v : Value) : Prop := ∀ j cs T fr, w.heap[j]? = some (.cells cs T fr) → Value.ownBlock v ≠ some j → wr.heap[j]? = some (.cells cs T fr)

theorem keptBut_refl (w : World) (v : Value) : KeptBut w w v := fun _ _ _ _ h _ => h

theorem keptBut_trans {w w1 w2 : World} {v : Value} (h1 : KeptBut w w1 v) (h2 : KeptBut w1 w2 v) : KeptBut w w2 v := fun j cs T fr h hn => h2 j cs T fr (h1 j cs T fr h hn) hn

theorem keptBut_below {w w1 : World} {v : Value} (h : Below w.heap.size w w1) : KeptBut w w1 v := fun _ _ _ _ hr _ => below_row h hr

theorem keptBut_set {w : World} {g i : Nat} {n c : Nat} (x : Value) : KeptBut w (w.setCell ⟨g, i, none⟩ x) (.slice (some ⟨g, 0, none⟩) n c) := fun j cs T fr h hn => by
  rw [heap_setCell_other _ _ _ _ (by intro e; exact hn (by rw [e]; rfl))]
  exact h

def MkW (w : World) (b g n cap : Nat) (wr : World) : Prop := Below b w wr ∧ KeptBut w wr (.slice (some ⟨g, 0, none⟩) n cap) ∧ ∃ cur : Array Value, wr.heap[g]? = some (.cells cur 174 (0, 0)) ∧ n * 3 ≤ cur.size ∧ Mk3 cur n

set_option maxRecDepth 100000 in
set_option maxHeartbeats 4000000 in
theorem markWinS_any (b g n cap : Nat) (hn : n ≤ 1048576) (cur0 : Array Value) (w : World) (hg : w.heap[g]? = some (.cells cur0 174 (0, 0))) (hs : n * 3 ≤ cur0.size) (hbg : b ≤ g) :
    Calls Tryz.prog 87 #[.slice (some ⟨g, 0, none⟩) n cap, .int .i64 1] w fun e w' => e = .returned (.int .i64 (1 + 3 * (n : Int))) ∧ MkW w b g n cap w' := by
  have HG0 := Lib.hid hg
  clear hg
  go_enter Tryz.func87, Tryz.ntmps87
  go_wp2
  go_loopw [1, 5] (fun q i wr => ∃ (k : Nat) (q' : Int), k ≤ n ∧ i = .int .i64 k ∧ q' = 1 + 3 * (k : Int) ∧ q = .int .i64 q' ∧ Below b w wr ∧ KeptBut w wr (.slice (some ⟨g, 0, none⟩) n cap) ∧ ∃ cur : Array Value, wr.heap[g]? = some (.cells cur 174 (0, 0)) ∧ n * 3 ≤ cur.size ∧ Mk3 cur k) (fun _ i _ => n - (intOf i).toNat)
  case atStart => exact ⟨0, 1, Nat.zero_le _, rfl, rfl, rfl, Below.refl _ _, keptBut_refl _ _, cur0, HG0.out, hs, fun j h => by omega⟩
  case round =>
    clear HG0 hs
    obtain ⟨k, q, hk, rfl, hq, rfl, hb, hot, cur, hg, hs, hp⟩ := hrel
    have Hp := Lib.hid hp
    have HG := Lib.hid hg
    have Hot := Lib.hid hot
    have HB := Lib.hid hb
    have HQ := Lib.hid hq
    by_cases hlt : k < n
    · have z0 : (0 : Int) ≤ (k : Int) := by omega
      have z1 : (k : Int) < (n : Int) := by omega
      have hks : k * 3 + 3 ≤ cur.size := by omega
      have hw1 : IntKind.i64.wrap (q + 1) = q + 1 := by rw [IntWalk.i64_in _ (by omega)]
      have hw2 : IntKind.i64.wrap (q + 1 + 1) = q + 1 + 1 := by rw [IntWalk.i64_in _ (by omega)]
      have hw3 : IntKind.i64.wrap (q + 1 + 1 + 1) = q + 1 + 1 + 1 := by rw [IntWalk.i64_in _ (by omega)]
      clear hp hg hot hb hq
      obtain ⟨hin, q1, q2⟩ : k * 3 < cur.size ∧ wr.cell? ⟨g, k * 3, none⟩ = some (cur[k * 3]'(by first | omega | (simp; omega))) ∧ wr.frozen? ⟨g, k * 3, none⟩ = false := ⟨by first | omega | (simp; omega), cell_kR HG.out (Array.getElem?_eq_getElem _), frozen_of_row wr g (k * 3) _ _ HG.out⟩
      clear hin
      go_upto_region 6 with (fail)
      refine abs_world (fun X => X.heap[g]? = some (.cells (cur.setIfInBounds (k * 3) (.int .i8 (IntKind.i8.wrap q))) 174 (0, 0)) ∧ KeptBut w X (.slice (some ⟨g, 0, none⟩) n cap) ∧ Below b w X) ⟨heap_setCell_same _ _ _ _ _ _ HG.out, keptBut_trans Hot.out (keptBut_set _), HB.out.setCell (p := ⟨g, k * 3, none⟩) hbg _⟩ ?_
      clear HG Hot HB q1 q2
      rintro X1 ⟨hgx, hotx, hbx⟩
      have HG := Lib.hid hgx
      have Hot := Lib.hid hotx
      have HB := Lib.hid hbx
      clear hgx hotx hbx
      obtain ⟨hin, q1, q2⟩ : k * 3 + 1 < (cur.setIfInBounds (k * 3) (.int .i8 (IntKind.i8.wrap q))).size ∧ X1.cell? ⟨g, k * 3 + 1, none⟩ = some ((cur.setIfInBounds (k * 3) (.int .i8 (IntKind.i8.wrap q)))[k * 3 + 1]'(by first | omega | (simp; omega))) ∧ X1.frozen? ⟨g, k * 3 + 1, none⟩ = false := ⟨by first | omega | (simp; omega), cell_kR HG.out (Array.getElem?_eq_getElem _), frozen_of_row X1 g (k * 3 + 1) _ _ HG.out⟩
      clear hin
      go_upto_region 8 with (fail)
      refine abs_world (fun X => X.heap[g]? = some (.cells ((cur.setIfInBounds (k * 3) (.int .i8 (IntKind.i8.wrap q))).setIfInBounds (k * 3 + 1) (.int .i8 (IntKind.i8.wrap (q + 1)))) 174 (0, 0)) ∧ KeptBut w X (.slice (some ⟨g, 0, none⟩) n cap) ∧ Below b w X) ⟨heap_setCell_same _ _ _ _ _ _ HG.out, keptBut_trans Hot.out (keptBut_set _), HB.out.setCell (p := ⟨g, k * 3 + 1, none⟩) hbg _⟩ ?_
      clear HG Hot HB q1 q2
      rintro X2 ⟨hgx, hotx, hbx⟩
      have HG := Lib.hid hgx
      have Hot := Lib.hid hotx
      have HB := Lib.hid hbx
      clear hgx hotx hbx
      obtain ⟨hin, q1, q2⟩ : k * 3 + 2 < ((cur.setIfInBounds (k * 3) (.int .i8 (IntKind.i8.wrap q))).setIfInBounds (k * 3 + 1) (.int .i8 (IntKind.i8.wrap (q + 1)))).size ∧ X2.cell? ⟨g, k * 3 + 2, none⟩ = some (((cur.setIfInBounds (k * 3) (.int .i8 (IntKind.i8.wrap q))).setIfInBounds (k * 3 + 1) (.int .i8 (IntKind.i8.wrap (q + 1))))[k * 3 + 2]'(by first | omega | (simp; omega))) ∧ X2.frozen? ⟨g, k * 3 + 2, none⟩ = false := ⟨by first | omega | (simp; omega), cell_kR HG.out (Array.getElem?_eq_getElem _), frozen_of_row X2 g (k * 3 + 2) _ _ HG.out⟩
      clear hin
      go_upto_region 9 with (fail)
      refine abs_world (fun X => X.heap[g]? = some (.cells (((cur.setIfInBounds (k * 3) (.int .i8 (IntKind.i8.wrap q))).setIfInBounds (k * 3 + 1) (.int .i8 (IntKind.i8.wrap (q + 1)))).setIfInBounds (k * 3 + 2) (.float .f32 (floatOfInt .f32 (q + 1 + 1)))) 174 (0, 0)) ∧ KeptBut w X (.slice (some ⟨g, 0, none⟩) n cap) ∧ Below b w X) ⟨heap_setCell_same _ _ _ _ _ _ HG.out, keptBut_trans Hot.out (keptBut_set _), HB.out.setCell (p := ⟨g, k * 3 + 2, none⟩) hbg _⟩ ?_
      clear HG Hot HB q1 q2
      rintro X3 ⟨hgx, hotx, hbx⟩
      have HG := Lib.hid hgx
      have Hot := Lib.hid hotx
      have HB := Lib.hid hbx
      clear hgx hotx hbx
      go_wp2
      go_roundw
      case rel =>
        have hq := HQ.out
        refine ⟨k + 1, q + 1 + 1 + 1, by omega, by go_num, by omega, by first | trivial | rfl, HB.out, Hot.out, _, HG.out, by simp; omega, fun j hj => ?_⟩
        by_cases e : j = k
        · subst e
          rw [← hq]
          refine ⟨?_, ?_, ?_⟩
          · rw [sgo (by omega), sgo (by omega), sgs (by omega)]
          · rw [sgo (by omega), sgs (by simp; omega)]
          · rw [sgs (by simp; omega)]
        · obtain ⟨a1, a2, a3⟩ := Hp.out j (by omega)
          refine ⟨?_, ?_, ?_⟩
          · rw [sgo (by omega), sgo (by omega), sgo (by omega)]; exact a1
          · rw [sgo (by omega), sgo (by omega), sgo (by omega)]; exact a2
          · rw [sgo (by omega), sgo (by omega), sgo (by omega)]; exact a3
      case measure => simp [intOf]; omega
    · obtain rfl : k = n := by omega
      clear hp hg hot hb hq
      go_wp2
      go_ret
      exact ⟨by rw [HQ.out]; rfl, HB.out, Hot.out, cur, HG.out, hs, Hp.out⟩

set_option maxRecDepth 100000 in
set_option maxHeartbeats 4000000 in
theorem markWinS_nil (w : World) : Calls Tryz.prog 87 #[.slice none 0 0, .int .i64 1] w fun e w' => e = .returned (.int .i64 1) ∧ w = w' := by
  go_enter Tryz.func87, Tryz.ntmps87
  go_wp2
  go_loopw [1, 5] (fun q i wr => q = .int .i64 1 ∧ i = .int .i64 0 ∧ wr = w) (fun _ _ _ => 0)
  case atStart => exact ⟨rfl, rfl, rfl⟩
  case round =>
    obtain ⟨rfl, rfl, rfl⟩ := hrel
    go_wp2
    go_ret
    exact ⟨rfl, rfl⟩

/-- Windows of the call's own, or none. -/
def OwnQ (w : World) (lo : Nat) (v : Value) (ws : List Wn) : Prop := (v = .slice none 0 0 ∧ ws = []) ∨ OwnV w lo v ws

/-- Marked windows, or none. -/
def MarkedQ (w : World) (v : Value) (n : Nat) : Prop := (v = .slice none 0 0 ∧ n = 0) ∨ ∃ g cap cur, v = .slice (some ⟨g, 0, none⟩) n cap ∧ w.heap[g]? = some (.cells cur 174 (0, 0)) ∧ Mk3 cur n

theorem ownQ_rng {w : World} {lo : Nat} {v : Value} {ws : List Wn} (h : OwnQ w lo v ws) : ∀ j, Value.ownBlock v = some j → lo ≤ j ∧ j < w.heap.size := by
  intro j hj
  rcases h with ⟨rfl, _⟩ | ⟨g, cap, cur, rfl, h2, h3, _⟩
  · cases hj
  · have : g = j := by simpa [Value.ownBlock] using hj
    subst this
    exact ⟨h2, row_lt h3⟩

theorem ownQ_at {w : World} {lo : Nat} {v : Value} {ws : List Wn} (h : OwnQ w lo v ws) : WinsAt w v ws := by
  rcases h with ⟨rfl, rfl⟩ | h
  · exact ⟨none, 0, rfl, Nat.le_refl _, by unfold maxLen; omega, fun i x hx => by simp at hx⟩
  · exact ownV_at h

theorem ownQ_below {w w' : World} {lo : Nat} {v : Value} {ws : List Wn} (h : OwnQ w lo v ws) (hb : Below w.heap.size w w') : OwnQ w' lo v ws := by
  rcases h with h | h
  · exact .inl h
  · exact .inr (ownV_below h hb (Nat.le_refl _))

theorem ownQ_keep {w w' : World} {lo : Nat} {v v' : Value} {ws : List Wn} (h : OwnQ w lo v ws) (hk : KeptBut w w' v') (hn : ∀ j, Value.ownBlock v = some j → Value.ownBlock v' ≠ some j) : OwnQ w' lo v ws := by
  rcases h with h | ⟨g, cap, cur, rfl, h2, h3, h4⟩
  · exact .inl h
  · exact .inr ⟨g, cap, cur, rfl, h2, hk g cur _ _ h3 (hn g rfl), h4⟩

theorem ownQ_ofW {w : World} {lo : Nat} {v : Value} {ws : List Wn} (h : OwnW w lo v ws) : OwnQ w lo v ws := by
  obtain ⟨g, cur, rfl, h2, h3, h4, h5, h6⟩ := h
  exact .inr ⟨g, ws.length, cur, rfl, h2, h3, Nat.le_refl _, by unfold maxLen; omega, by omega, h6⟩

theorem markedQ_keep {w w' : World} {v v' : Value} {n : Nat} (h : MarkedQ w v n) (hk : KeptBut w w' v') (hn : ∀ j, Value.ownBlock v = some j → Value.ownBlock v' ≠ some j) : MarkedQ w' v n := by
  rcases h with h | ⟨g, cap, cur, rfl, h3, h4⟩
  · exact .inl h
  · exact .inr ⟨g, cap, cur, rfl, hk g cur _ _ h3 (hn g rfl), h4⟩

theorem markedQ_below {w w' : World} {v : Value} {n : Nat} (h : MarkedQ w v n) (hb : Below w.heap.size w w') : MarkedQ w' v n := markedQ_keep (v' := .slice none 0 0) h (keptBut_below hb) (fun j _ h => by cases h)

set_option maxRecDepth 100000 in
set_option maxHeartbeats 4000000 in
theorem markRoomQ (wd hg : Int) (b : Nat) (v : Value) (ws : List Wn) (hlen : ws.length ≤ 1048576) (w : World) (h : OwnQ w b v ws) :
    Calls Tryz.prog 38 #[.agg (roomC wd hg v), .int .i64 1] w fun e w' => e = .returned (.int .i64 (1 + 3 * (ws.length : Int))) ∧ MarkedQ w' v ws.length ∧ KeptBut w w' v ∧ (b ≤ w.heap.size → Below b w w') := by
  rcases h with ⟨rfl, rfl⟩ | ⟨g, cap, cur, rfl, h2, h3, h4, h5, h6, h7⟩
  · go_enter Tryz.func38, Tryz.ntmps38
    go_upto_region 1 with (fail)
    refine abs_world (fun W => W.heap[w.heap.size]? = some (.cells (roomC wd hg (.slice none 0 0)) 70 (0, 0)) ∧ Below w.heap.size w W) ⟨heap_alloc_new _ _, (Below.refl _ _).alloc (Nat.le_refl _) _⟩ ?_
    rintro W ⟨h0, hb⟩
    obtain ⟨-, -, r2⟩ := room_cells h0
    clear h0
    go_wp2_with (go_at_call 87; refine (markWinS_nil _).mono ?_; rintro e w1 ⟨rfl, rfl⟩)
    go_ret
    exact ⟨rfl, .inl ⟨rfl, rfl⟩, keptBut_below hb, fun h => hb.mono h⟩
  · generalize ws.length = n at *
    have hgl := row_lt h3
    have HM := Lib.hid (fun W (h : W.heap[g]? = some (.cells cur 174 (0, 0))) => markWinS_any b g n cap hlen cur W h h6 h2)
    have HR := Lib.hid h3
    clear h3 h7
    go_enter Tryz.func38, Tryz.ntmps38
    go_upto_region 1 with (fail)
    refine abs_world (fun W => W.heap[w.heap.size]? = some (.cells (roomC wd hg (.slice (some ⟨g, 0, none⟩) n cap)) 70 (0, 0)) ∧ Below w.heap.size w W) ⟨heap_alloc_new _ _, (Below.refl _ _).alloc (Nat.le_refl _) _⟩ ?_
    rintro W ⟨h0, hb⟩
    obtain ⟨-, -, r2⟩ := room_cells h0
    have HMW := Lib.hid (HM.out W (below_row hb HR.out))
    clear h0 HM
    go_wp2_with (go_at_call 87; refine HMW.out.mono ?_; rintro e W1 ⟨rfl, hb1, hkb, cur', hg', hs', hm'⟩)
    go_ret
    exact ⟨rfl, .inr ⟨g, cap, cur', rfl, hg', hm'⟩, keptBut_trans (keptBut_below hb) hkb, fun h => (hb.mono h).trans hb1⟩

end Go.Proofs.YtpcmcopfdghdgaaGreatDoor

namespace Go.Proofs.YtpcmcopfdghdgaaGreatDoor
open Go.RowKit

/-- The block of a list lies below B, or from B on. -/
def Under (v : Value) (B : Nat) : Prop := ∀ g n c, v = .slice (some ⟨g, 0, none⟩) n c → g < B

def Above (v : Value) (B : Nat) : Prop := ∀ g n c, v = .slice (some ⟨g, 0, none⟩) n c → B ≤ g

theorem under_of {α : Type} {w : World} {b : Nat} {E : TypeId} {mk : α → Value} {v : Value} {xs : List α} (h : Own w b E mk v xs) : Under v w.heap.size := by
  obtain ⟨a, c, rfl, _, _, h4⟩ := h
  intro g n c' e
  injection e with e1 e2 e3
  rcases h4 with ⟨ea, _⟩ | ⟨g', cur, ea, _, hc, _⟩
  · rw [ea] at e1; cases e1
  · rw [ea] at e1
    injection e1 with e1
    injection e1 with e1
    subst e1
    exact row_lt hc

theorem above_of {α : Type} {w : World} {b : Nat} {E : TypeId} {mk : α → Value} {v : Value} {xs : List α} (h : Own w b E mk v xs) : Above v b := by
  obtain ⟨a, c, rfl, _, _, h4⟩ := h
  intro g n c' e
  injection e with e1 e2 e3
  rcases h4 with ⟨ea, _⟩ | ⟨g', cur, ea, hb, hc, _⟩
  · rw [ea] at e1; cases e1
  · rw [ea] at e1
    injection e1 with e1
    injection e1 with e1
    subst e1
    exact hb

theorem under_mono {v : Value} {B C : Nat} (h : Under v B) (hBC : B ≤ C) : Under v C := fun g n c e => Nat.lt_of_lt_of_le (h g n c e) hBC

/-- A list is as it was, when another one has been written into. -/
theorem own_marked {α : Type} {w w' : World} {b B : Nat} {E : TypeId} {mk : α → Value} {v v1 : Value} {xs : List α} {m : Int} {n : Nat} {e : Ending} {E1 : TypeId} (h : Own w b E mk v xs) (hu : Under v B) (ha : Above v1 B) (hm : Marked w E1 B v1 m n e w') : Own w' b E mk v xs := by
  obtain ⟨a, c, rfl, h2, h3, h4⟩ := h
  refine ⟨a, c, rfl, h2, h3, h4.imp id ?_⟩
  rintro ⟨g, cur, rfl, hg, hc, hk⟩
  refine ⟨g, cur, rfl, hg, hm.2.2.2 g _ hc ?_, hk⟩
  intro g' n' c' e'
  have h5 := hu g _ _ rfl
  have h6 := ha g' _ _ e'
  omega

theorem row_marked {w w' : World} {B g : Nat} {v1 : Value} {m : Int} {n : Nat} {e : Ending} {E1 : TypeId} {o : Obj} (h : w.heap[g]? = some o) (hg : g < B) (ha : Above v1 B) (hm : Marked w E1 B v1 m n e w') : w'.heap[g]? = some o := by
  refine hm.2.2.2 g o h ?_
  intro g' n' c' e'
  have h6 := ha g' _ _ e'
  omega

/-- A list and a code, the list being the call's own. -/
def RetList (xs : List Int) (c : Int) (w : World) (e : Ending) (w' : World) : Prop := (∃ v, e = .returned (.tuple #[v, .int .i64 c]) ∧ Own w' w.heap.size 2 (Value.int .i64) v xs) ∧ Below w.heap.size w w'

end Go.Proofs.YtpcmcopfdghdgaaGreatDoor

namespace Go.Proofs.YtpcmcopfdghdgaaGreatDoor
open Go.ChangeShapes Go.WideShapes Go.ChangeAt Go.RowKit Go.Deep Go.Joins

attribute [local go_sem] run_store_f run_store_flR

set_option maxRecDepth 100000 in
set_option maxHeartbeats 4000000 in
theorem markDkS_any (b g n cap : Nat) (hn : n ≤ 1048576) (k0 : Int) (l0 : 0 ≤ k0) (l1 : k0 ≤ 40000000) (cur0 : Array Value) (w : World) (hg : w.heap[g]? = some (.cells cur0 128 (0, 0))) (hs : n * 3 ≤ cur0.size) (hbg : b ≤ g) :
    Calls Tryz.prog 39 #[.slice (some ⟨g, 0, none⟩) n cap, .int .i64 k0] w fun e w' => e = .returned (.int .i64 (k0 + 3 * (n : Int))) ∧ Below b w w' ∧ KeptBut w w' (.slice (some ⟨g, 0, none⟩) n cap) := by
  have HG0 := Lib.hid hg
  clear hg
  go_enter Tryz.func39, Tryz.ntmps39
  go_wp2
  go_loopw [1, 5] (fun q i wr => ∃ (k : Nat) (q' : Int), k ≤ n ∧ i = .int .i64 k ∧ q' = k0 + 3 * (k : Int) ∧ q = .int .i64 q' ∧ Below b w wr ∧ KeptBut w wr (.slice (some ⟨g, 0, none⟩) n cap) ∧ ∃ cur : Array Value, wr.heap[g]? = some (.cells cur 128 (0, 0)) ∧ n * 3 ≤ cur.size) (fun _ i _ => n - (intOf i).toNat)
  case atStart => exact ⟨0, k0, Nat.zero_le _, rfl, by simp, rfl, Below.refl _ _, keptBut_refl _ _, cur0, HG0.out, hs⟩
  case round =>
    clear HG0 hs
    obtain ⟨k, q, hk, rfl, hq, rfl, hb, hot, cur, hg, hs⟩ := hrel
    have HG := Lib.hid hg
    have Hot := Lib.hid hot
    have HB := Lib.hid hb
    have HQ := Lib.hid hq
    by_cases hlt : k < n
    · have z0 : (0 : Int) ≤ (k : Int) := by omega
      have z1 : (k : Int) < (n : Int) := by omega
      have hks : k * 3 + 3 ≤ cur.size := by omega
      have hw1 : IntKind.i64.wrap (q + 1) = q + 1 := by rw [IntWalk.i64_in _ (by omega)]
      have hw2 : IntKind.i64.wrap (q + 1 + 1) = q + 1 + 1 := by rw [IntWalk.i64_in _ (by omega)]
      have hw3 : IntKind.i64.wrap (q + 1 + 1 + 1) = q + 1 + 1 + 1 := by rw [IntWalk.i64_in _ (by omega)]
      clear hg hot hb hq
      obtain ⟨hin, q1, q2⟩ : k * 3 < cur.size ∧ wr.cell? ⟨g, k * 3, none⟩ = some (cur[k * 3]'(by first | omega | (simp; omega))) ∧ wr.frozen? ⟨g, k * 3, none⟩ = false := ⟨by first | omega | (simp; omega), cell_kR HG.out (Array.getElem?_eq_getElem _), frozen_of_row wr g (k * 3) _ _ HG.out⟩
      clear hin
      go_upto_region 6 with (fail)
      refine abs_world (fun X => X.heap[g]? = some (.cells (cur.setIfInBounds (k * 3) (.int .i8 (IntKind.i8.wrap q))) 128 (0, 0)) ∧ KeptBut w X (.slice (some ⟨g, 0, none⟩) n cap) ∧ Below b w X) ⟨heap_setCell_same _ _ _ _ _ _ HG.out, keptBut_trans Hot.out (keptBut_set _), HB.out.setCell (p := ⟨g, k * 3, none⟩) hbg _⟩ ?_
      clear HG Hot HB q1 q2
      rintro X1 ⟨hgx, hotx, hbx⟩
      have HG := Lib.hid hgx
      have Hot := Lib.hid hotx
      have HB := Lib.hid hbx
      clear hgx hotx hbx
      obtain ⟨hin, q1, q2⟩ : k * 3 + 1 < (cur.setIfInBounds (k * 3) (.int .i8 (IntKind.i8.wrap q))).size ∧ X1.cell? ⟨g, k * 3 + 1, none⟩ = some ((cur.setIfInBounds (k * 3) (.int .i8 (IntKind.i8.wrap q)))[k * 3 + 1]'(by first | omega | (simp; omega))) ∧ X1.frozen? ⟨g, k * 3 + 1, none⟩ = false := ⟨by first | omega | (simp; omega), cell_kR HG.out (Array.getElem?_eq_getElem _), frozen_of_row X1 g (k * 3 + 1) _ _ HG.out⟩
      clear hin
      go_upto_region 8 with (fail)
      refine abs_world (fun X => X.heap[g]? = some (.cells ((cur.setIfInBounds (k * 3) (.int .i8 (IntKind.i8.wrap q))).setIfInBounds (k * 3 + 1) (.int .i8 (IntKind.i8.wrap (q + 1)))) 128 (0, 0)) ∧ KeptBut w X (.slice (some ⟨g, 0, none⟩) n cap) ∧ Below b w X) ⟨heap_setCell_same _ _ _ _ _ _ HG.out, keptBut_trans Hot.out (keptBut_set _), HB.out.setCell (p := ⟨g, k * 3 + 1, none⟩) hbg _⟩ ?_
      clear HG Hot HB q1 q2
      rintro X2 ⟨hgx, hotx, hbx⟩
      have HG := Lib.hid hgx
      have Hot := Lib.hid hotx
      have HB := Lib.hid hbx
      clear hgx hotx hbx
      obtain ⟨hin, q1, q2⟩ : k * 3 + 2 < ((cur.setIfInBounds (k * 3) (.int .i8 (IntKind.i8.wrap q))).setIfInBounds (k * 3 + 1) (.int .i8 (IntKind.i8.wrap (q + 1)))).size ∧ X2.cell? ⟨g, k * 3 + 2, none⟩ = some (((cur.setIfInBounds (k * 3) (.int .i8 (IntKind.i8.wrap q))).setIfInBounds (k * 3 + 1) (.int .i8 (IntKind.i8.wrap (q + 1))))[k * 3 + 2]'(by first | omega | (simp; omega))) ∧ X2.frozen? ⟨g, k * 3 + 2, none⟩ = false := ⟨by first | omega | (simp; omega), cell_kR HG.out (Array.getElem?_eq_getElem _), frozen_of_row X2 g (k * 3 + 2) _ _ HG.out⟩
      clear hin
      go_upto_region 9 with (fail)
      refine abs_world (fun X => X.heap[g]? = some (.cells (((cur.setIfInBounds (k * 3) (.int .i8 (IntKind.i8.wrap q))).setIfInBounds (k * 3 + 1) (.int .i8 (IntKind.i8.wrap (q + 1)))).setIfInBounds (k * 3 + 2) (.int .i8 (IntKind.i8.wrap (q + 1 + 1)))) 128 (0, 0)) ∧ KeptBut w X (.slice (some ⟨g, 0, none⟩) n cap) ∧ Below b w X) ⟨heap_setCell_same _ _ _ _ _ _ HG.out, keptBut_trans Hot.out (keptBut_set _), HB.out.setCell (p := ⟨g, k * 3 + 2, none⟩) hbg _⟩ ?_
      clear HG Hot HB q1 q2
      rintro X3 ⟨hgx, hotx, hbx⟩
      have HG := Lib.hid hgx
      have Hot := Lib.hid hotx
      have HB := Lib.hid hbx
      clear hgx hotx hbx
      go_wp2
      go_roundw
      case rel =>
        have hq := HQ.out
        exact ⟨k + 1, q + 1 + 1 + 1, by omega, by go_num, by omega, by first | trivial | rfl, HB.out, Hot.out, _, HG.out, by simp; omega⟩
      case measure => simp [intOf]; omega
    · obtain rfl : k = n := by omega
      clear hg hot hb hq
      go_wp2
      go_ret
      exact ⟨by rw [HQ.out]; rfl, HB.out, Hot.out⟩

set_option maxRecDepth 100000 in
set_option maxHeartbeats 4000000 in
theorem markPnS_any (b g n cap : Nat) (hn : n ≤ 1048576) (k0 : Int) (l0 : 0 ≤ k0) (l1 : k0 ≤ 40000000) (cur0 : Array Value) (w : World) (hg : w.heap[g]? = some (.cells cur0 134 (0, 0))) (hs : n * 3 ≤ cur0.size) (hbg : b ≤ g) :
    Calls Tryz.prog 40 #[.slice (some ⟨g, 0, none⟩) n cap, .int .i64 k0] w fun e w' => e = .returned (.int .i64 (k0 + 3 * (n : Int))) ∧ Below b w w' ∧ KeptBut w w' (.slice (some ⟨g, 0, none⟩) n cap) := by
  have HG0 := Lib.hid hg
  clear hg
  go_enter Tryz.func40, Tryz.ntmps40
  go_wp2
  go_loopw [1, 5] (fun q i wr => ∃ (k : Nat) (q' : Int), k ≤ n ∧ i = .int .i64 k ∧ q' = k0 + 3 * (k : Int) ∧ q = .int .i64 q' ∧ Below b w wr ∧ KeptBut w wr (.slice (some ⟨g, 0, none⟩) n cap) ∧ ∃ cur : Array Value, wr.heap[g]? = some (.cells cur 134 (0, 0)) ∧ n * 3 ≤ cur.size) (fun _ i _ => n - (intOf i).toNat)
  case atStart => exact ⟨0, k0, Nat.zero_le _, rfl, by simp, rfl, Below.refl _ _, keptBut_refl _ _, cur0, HG0.out, hs⟩
  case round =>
    clear HG0 hs
    obtain ⟨k, q, hk, rfl, hq, rfl, hb, hot, cur, hg, hs⟩ := hrel
    have HG := Lib.hid hg
    have Hot := Lib.hid hot
    have HB := Lib.hid hb
    have HQ := Lib.hid hq
    by_cases hlt : k < n
    · have z0 : (0 : Int) ≤ (k : Int) := by omega
      have z1 : (k : Int) < (n : Int) := by omega
      have hks : k * 3 + 3 ≤ cur.size := by omega
      have hw1 : IntKind.i64.wrap (q + 1) = q + 1 := by rw [IntWalk.i64_in _ (by omega)]
      have hw2 : IntKind.i64.wrap (q + 1 + 1) = q + 1 + 1 := by rw [IntWalk.i64_in _ (by omega)]
      have hw3 : IntKind.i64.wrap (q + 1 + 1 + 1) = q + 1 + 1 + 1 := by rw [IntWalk.i64_in _ (by omega)]
      clear hg hot hb hq
      obtain ⟨hin, q1, q2⟩ : k * 3 < cur.size ∧ wr.cell? ⟨g, k * 3, none⟩ = some (cur[k * 3]'(by first | omega | (simp; omega))) ∧ wr.frozen? ⟨g, k * 3, none⟩ = false := ⟨by first | omega | (simp; omega), cell_kR HG.out (Array.getElem?_eq_getElem _), frozen_of_row wr g (k * 3) _ _ HG.out⟩
      clear hin
      go_upto_region 6 with (fail)
      refine abs_world (fun X => X.heap[g]? = some (.cells (cur.setIfInBounds (k * 3) (.float .f32 (floatOfInt .f32 q))) 134 (0, 0)) ∧ KeptBut w X (.slice (some ⟨g, 0, none⟩) n cap) ∧ Below b w X) ⟨heap_setCell_same _ _ _ _ _ _ HG.out, keptBut_trans Hot.out (keptBut_set _), HB.out.setCell (p := ⟨g, k * 3, none⟩) hbg _⟩ ?_
      clear HG Hot HB q1 q2
      rintro X1 ⟨hgx, hotx, hbx⟩
      have HG := Lib.hid hgx
      have Hot := Lib.hid hotx
      have HB := Lib.hid hbx
      clear hgx hotx hbx
      obtain ⟨hin, q1, q2⟩ : k * 3 + 1 < (cur.setIfInBounds (k * 3) (.float .f32 (floatOfInt .f32 q))).size ∧ X1.cell? ⟨g, k * 3 + 1, none⟩ = some ((cur.setIfInBounds (k * 3) (.float .f32 (floatOfInt .f32 q)))[k * 3 + 1]'(by first | omega | (simp; omega))) ∧ X1.frozen? ⟨g, k * 3 + 1, none⟩ = false := ⟨by first | omega | (simp; omega), cell_kR HG.out (Array.getElem?_eq_getElem _), frozen_of_row X1 g (k * 3 + 1) _ _ HG.out⟩
      clear hin
      go_upto_region 8 with (fail)
      refine abs_world (fun X => X.heap[g]? = some (.cells ((cur.setIfInBounds (k * 3) (.float .f32 (floatOfInt .f32 q))).setIfInBounds (k * 3 + 1) (.float .f32 (floatOfInt .f32 (q + 1)))) 134 (0, 0)) ∧ KeptBut w X (.slice (some ⟨g, 0, none⟩) n cap) ∧ Below b w X) ⟨heap_setCell_same _ _ _ _ _ _ HG.out, keptBut_trans Hot.out (keptBut_set _), HB.out.setCell (p := ⟨g, k * 3 + 1, none⟩) hbg _⟩ ?_
      clear HG Hot HB q1 q2
      rintro X2 ⟨hgx, hotx, hbx⟩
      have HG := Lib.hid hgx
      have Hot := Lib.hid hotx
      have HB := Lib.hid hbx
      clear hgx hotx hbx
      obtain ⟨hin, q1, q2⟩ : k * 3 + 2 < ((cur.setIfInBounds (k * 3) (.float .f32 (floatOfInt .f32 q))).setIfInBounds (k * 3 + 1) (.float .f32 (floatOfInt .f32 (q + 1)))).size ∧ X2.cell? ⟨g, k * 3 + 2, none⟩ = some (((cur.setIfInBounds (k * 3) (.float .f32 (floatOfInt .f32 q))).setIfInBounds (k * 3 + 1) (.float .f32 (floatOfInt .f32 (q + 1))))[k * 3 + 2]'(by first | omega | (simp; omega))) ∧ X2.frozen? ⟨g, k * 3 + 2, none⟩ = false := ⟨by first | omega | (simp; omega), cell_kR HG.out (Array.getElem?_eq_getElem _), frozen_of_row X2 g (k * 3 + 2) _ _ HG.out⟩
      clear hin
      go_upto_region 9 with (fail)
      refine abs_world (fun X => X.heap[g]? = some (.cells (((cur.setIfInBounds (k * 3) (.float .f32 (floatOfInt .f32 q))).setIfInBounds (k * 3 + 1) (.float .f32 (floatOfInt .f32 (q + 1)))).setIfInBounds (k * 3 + 2) (.float .f32 (floatOfInt .f32 (q + 1 + 1)))) 134 (0, 0)) ∧ KeptBut w X (.slice (some ⟨g, 0, none⟩) n cap) ∧ Below b w X) ⟨heap_setCell_same _ _ _ _ _ _ HG.out, keptBut_trans Hot.out (keptBut_set _), HB.out.setCell (p := ⟨g, k * 3 + 2, none⟩) hbg _⟩ ?_
      clear HG Hot HB q1 q2
      rintro X3 ⟨hgx, hotx, hbx⟩
      have HG := Lib.hid hgx
      have Hot := Lib.hid hotx
      have HB := Lib.hid hbx
      clear hgx hotx hbx
      go_wp2
      go_roundw
      case rel =>
        have hq := HQ.out
        exact ⟨k + 1, q + 1 + 1 + 1, by omega, by go_num, by omega, by first | trivial | rfl, HB.out, Hot.out, _, HG.out, by simp; omega⟩
      case measure => simp [intOf]; omega
    · obtain rfl : k = n := by omega
      clear hg hot hb hq
      go_wp2
      go_ret
      exact ⟨by rw [HQ.out]; rfl, HB.out, Hot.out⟩

set_option maxRecDepth 100000 in
set_option maxHeartbeats 1000000 in
theorem eqU_same (xs : List Int) (v1 v2 : Value) (b1 b2 : Nat) (w : World) (h1 : Own w b1 139 (Value.int .u16) v1 xs) (h2 : Own w b2 139 (Value.int .u16) v2 xs) :
    Calls Tryz.prog 34 #[v1, v2] w fun e w' => e = .returned (.bool true) ∧ Below w.heap.size w w' := by
  obtain ⟨a1, c1, rfl, hm⟩ := own_len h1
  obtain ⟨a2, c2, rfl, _⟩ := own_len h2
  have HO1 : Hid (∀ wr, Below w.heap.size w wr → Own wr b1 139 (Value.int .u16) (.slice a1 xs.length c1) xs) := fun wr hb => own_below h1 hb (Nat.le_refl _)
  have HO2 : Hid (∀ wr, Below w.heap.size w wr → Own wr b2 139 (Value.int .u16) (.slice a2 xs.length c2) xs) := fun wr hb => own_below h2 hb (Nat.le_refl _)
  clear h1 h2
  generalize xs.length = n at *
  unfold maxLen at hm
  go_enter Tryz.func34, Tryz.ntmps34
  go_wp2
  go_loopw [5] (fun i wr => ∃ k : Nat, k ≤ n ∧ i = .int .i64 k ∧ Below w.heap.size w wr) (fun i _ => n - (intOf i).toNat)
  case atStart => exact ⟨0, Nat.zero_le _, rfl, Below.refl _ _⟩
  case round =>
    obtain ⟨k, hk, rfl, hb⟩ := hrel
    by_cases hlt : k < n
    · obtain ⟨g1, cur1, rfl, _, hg1, hc1, hm1, x, hx, hk1⟩ := own_get (HO1.out wr hb) k hlt
      obtain ⟨g2, cur2, rfl, _, hg2, hc2, hm2, y, hy, hk2⟩ := own_get (HO2.out wr hb) k hlt
      obtain rfl : x = y := by rw [hx] at hy; exact Option.some.inj hy
      have q1 := cell_k hg1 hk1
      have q2 := cell_k hg2 hk2
      unfold maxLen at hm1 hm2
      clear hg1 hg2 hk1 hk2 hx hy
      have z0 : (0 : Int) ≤ (k : Int) := by omega
      have z1 : (k : Int) < (n : Int) := by omega
      have z2 : decide ((k : Int) < (n : Int)) = true := decide_eq_true z1
      go_wp2
      refine wp_region_held_drew (S := (fun W => W.cell? ⟨g1, k, none⟩ = some (.int .u16 x) ∧ W.cell? ⟨g2, k, none⟩ = some (.int .u16 x) ∧ Below w.heap.size w W)) (by kernel_rfl) ⟨by simpa using q1, by simpa using q2, hb.drew⟩ (fun hHeld => ?_)
      refine take_op (i := 0) (d := 17) (v := ?_) rfl rfl (by kernel_rfl) (by kernel_rfl) (by kernel_rfl) (fun _ _ _ h => h) (Or.inl ⟨by rfl, ?hy0u1⟩) hHeld ?rest0u1
      case hy0u1 =>
        intro w' hS'
        obtain ⟨s1, s2, _⟩ := hS'
        go_simp
        try with_reducible rfl
      simp only [List.setIfInBounds_toArray, List.set_cons_zero, List.set_cons_succ]
      refine take_op (i := 1) (d := 18) (v := ?_) rfl rfl (by kernel_rfl) (by kernel_rfl) (by kernel_rfl) (fun _ _ _ h => h) (Or.inl ⟨by rfl, ?hy1u2⟩) hHeld ?rest1u2
      case hy1u2 =>
        intro w' hS'
        obtain ⟨s1, s2, _⟩ := hS'
        go_simp
        try with_reducible rfl
      simp only [List.setIfInBounds_toArray, List.set_cons_zero, List.set_cons_succ]
      refine take_op (i := 2) (d := 19) (v := ?_) rfl rfl (by kernel_rfl) (by kernel_rfl) (by kernel_rfl) (fun _ _ _ h => h) (Or.inl ⟨by rfl, ?hy2u3⟩) hHeld ?rest2u3
      case hy2u3 =>
        intro w' hS'
        obtain ⟨s1, s2, _⟩ := hS'
        go_simp
        try with_reducible rfl
      simp only [List.setIfInBounds_toArray, List.set_cons_zero, List.set_cons_succ]
      refine take_op (i := 3) (d := 20) (v := ?_) rfl rfl (by kernel_rfl) (by kernel_rfl) (by kernel_rfl) (fun _ _ _ h => h) (Or.inl ⟨by rfl, ?hy3u4⟩) hHeld ?rest3u4
      case hy3u4 =>
        intro w' hS'
        obtain ⟨s1, s2, _⟩ := hS'
        go_simp
        try with_reducible rfl
      simp only [List.setIfInBounds_toArray, List.set_cons_zero, List.set_cons_succ]
      refine take_op (i := 4) (d := 21) (v := ?_) rfl rfl (by kernel_rfl) (by kernel_rfl) (by kernel_rfl) (fun _ _ _ h => h) (Or.inl ⟨by rfl, ?hy4u5⟩) hHeld ?rest4u5
      case hy4u5 =>
        intro w' hS'
        obtain ⟨s1, s2, _⟩ := hS'
        go_simp
        try with_reducible rfl
      simp only [List.setIfInBounds_toArray, List.set_cons_zero, List.set_cons_succ]
      refine take_op (i := 5) (d := 22) (v := ?_) rfl rfl (by kernel_rfl) (by kernel_rfl) (by kernel_rfl) (fun _ _ _ h => h) (Or.inl ⟨by rfl, ?hy5u6⟩) hHeld ?rest5u6
      case hy5u6 =>
        intro w' hS'
        obtain ⟨s1, s2, _⟩ := hS'
        go_simp
        try with_reducible rfl
      simp only [List.setIfInBounds_toArray, List.set_cons_zero, List.set_cons_succ]
      refine take_op (i := 6) (d := 23) (v := ?_) rfl rfl (by kernel_rfl) (by kernel_rfl) (by kernel_rfl) (fun _ _ _ h => h) (Or.inl ⟨by rfl, ?hy6u7⟩) hHeld ?rest6u7
      case hy6u7 =>
        intro w' hS'
        obtain ⟨s1, s2, _⟩ := hS'
        go_simp
        try with_reducible rfl
      simp only [List.setIfInBounds_toArray, List.set_cons_zero, List.set_cons_succ]
      refine take_op (i := 7) (d := 24) (v := ?_) rfl rfl (by kernel_rfl) (by kernel_rfl) (by kernel_rfl) (fun _ _ _ h => h) (Or.inl ⟨by rfl, ?hy7u8⟩) hHeld ?rest7u8
      case hy7u8 =>
        intro w' hS'
        obtain ⟨s1, s2, _⟩ := hS'
        go_simp
        try with_reducible rfl
      simp only [List.setIfInBounds_toArray, List.set_cons_zero, List.set_cons_succ]
      refine take_op (i := 8) (d := 25) (v := ?_) rfl rfl (by kernel_rfl) (by kernel_rfl) (by kernel_rfl) (fun _ _ _ h => h) (Or.inl ⟨by rfl, ?hy8u9⟩) hHeld ?rest8u9
      case hy8u9 =>
        intro w' hS'
        obtain ⟨s1, s2, _⟩ := hS'
        go_simp
        try with_reducible rfl
      simp only [List.setIfInBounds_toArray, List.set_cons_zero, List.set_cons_succ]
      refine wpAnyH_done (by kernel_rfl) ?_ _
      have hbx := hHeld.2.2
      clear hHeld q1 q2 hb
      go_wp2
      go_roundw
      case rel => exact ⟨k + 1, by omega, by go_num, hbx⟩
      case measure => simp [intOf]; omega
    · obtain rfl : k = n := by omega
      go_wp2
      go_ret
      exact ⟨rfl, hb⟩

def marksU (k : Int) (n : Nat) : List Int := (List.range n).map (fun i : Nat => IntKind.u16.wrap (k + (i : Int)))

theorem marksU_len (k : Int) (n : Nat) : (marksU k n).length = n := by simp [marksU]

theorem marksU_get (k : Int) (n i : Nat) (h : i < n) : (marksU k n)[i]? = some (IntKind.u16.wrap (k + (i : Int))) := by simp [marksU, h]

set_option maxRecDepth 100000 in
set_option maxHeartbeats 1000000 in
theorem heldU_same (m : Int) (n : Nat) (v : Value) (b : Nat) (w : World) (hm0 : 0 ≤ m) (hm1 : m ≤ 1000) (hn : n ≤ 1000) (h1 : Own w b 139 (Value.int .u16) v (marksU m n)) :
    Calls Tryz.prog 42 #[v, .int .i64 m] w fun e w' => e = .returned (.int .i64 (m + n)) ∧ Below w.heap.size w w' := by
  obtain ⟨a1, c1, rfl, hm⟩ := own_len h1
  have HO1 : Hid (∀ wr, Below w.heap.size w wr → Own wr b 139 (Value.int .u16) (.slice a1 (marksU m n).length c1) (marksU m n)) := fun wr hb => own_below h1 hb (Nat.le_refl _)
  rw [marksU_len] at HO1 hm ⊢
  clear h1
  unfold maxLen at hm
  go_enter Tryz.func42, Tryz.ntmps42
  go_wp2
  go_loopw [1, 5] (fun q i wr => ∃ k : Nat, k ≤ n ∧ i = .int .i64 k ∧ q = .int .i64 (m + k) ∧ Below w.heap.size w wr) (fun _ i _ => n - (intOf i).toNat)
  case atStart => exact ⟨0, Nat.zero_le _, rfl, by simp, Below.refl _ _⟩
  case round =>
    obtain ⟨k, hk, rfl, rfl, hb⟩ := hrel
    by_cases hlt : k < n
    · obtain ⟨g1, cur1, rfl, _, hg1, hc1, hm1, x, hx, hk1⟩ := own_get (HO1.out wr hb) k hlt
      have ho : (IntKind.u16.wrap (m + (k : Int)) != IntKind.u16.wrap (m + (k : Int))) = false := by simp
      obtain rfl : IntKind.u16.wrap (m + (k : Int)) = x := by rw [marksU_get m n k hlt] at hx; exact Option.some.inj hx
      have q1 := cell_k hg1 hk1
      unfold maxLen at hm1
      clear hg1 hk1 hx
      have z0 : (0 : Int) ≤ (k : Int) := by omega
      have z1 : (k : Int) < (n : Int) := by omega
      go_wp2
      go_roundw
      case rel => exact ⟨k + 1, by omega, by go_num, by go_num, hb⟩
      case measure => simp [intOf]; omega
    · obtain rfl : k = n := by omega
      go_wp2
      go_ret
      exact ⟨rfl, hb⟩

/-- What writing into a list does: it holds other elements, and all else is as it was. -/
def MarkedU (w : World) (E : TypeId) (b : Nat) (v : Value) (m : Int) (n : Nat) (e : Ending) (w' : World) : Prop :=
  e = .returned (.int .i64 (m + n)) ∧ Own w' b E (Value.int .u16) v (marksU m n) ∧ Below b w w' ∧ ∀ k o, w.heap[k]? = some o → (∀ g n c, v = .slice (some ⟨g, 0, none⟩) n c → k ≠ g) → w'.heap[k]? = some o

set_option maxRecDepth 100000 in
set_option maxHeartbeats 1000000 in
theorem markU_any (m : Int) (xs : List Int) (v : Value) (b : Nat) (w : World) (hm0 : 0 ≤ m) (hm1 : m ≤ 4000000) (hn : xs.length ≤ 2000000) (h1 : Own w b 139 (Value.int .u16) v xs) :
    Calls Tryz.prog 41 #[v, .int .i64 m] w fun e w' => MarkedU w 139 b v m xs.length e w' := by
  by_cases hz : xs.length = 0
  · obtain ⟨a1, c1, rfl, hm⟩ := own_len h1
    have HR : Hid (∀ wr, Below w.heap.size w wr → Own wr b 139 (Value.int .u16) (.slice a1 xs.length c1) (marksU m xs.length)) := by
      intro wr hb
      obtain ⟨a, cap, e1, e2, e3, e4⟩ := own_below h1 hb (Nat.le_refl _)
      refine ⟨a, cap, by rw [marksU_len]; exact e1, e2, by rw [marksU_len]; omega, ?_⟩
      rcases e4 with ⟨ea, _⟩ | ⟨g, cur, ea, eb, ec, _⟩
      · exact .inl ⟨ea, List.eq_nil_of_length_eq_zero (by rw [marksU_len]; exact hz)⟩
      · exact .inr ⟨g, cur, ea, eb, ec, fun k hk => by rw [marksU_len] at hk; omega⟩
    clear h1
    generalize xs.length = n at *
    subst hz
    go_enter Tryz.func41, Tryz.ntmps41
    go_wp2
    go_loopw [1, 5] (fun q i wr => q = .int .i64 m ∧ i = .int .i64 0 ∧ wr = w) (fun _ _ _ => 0)
    case atStart => exact ⟨rfl, rfl, rfl⟩
    case round =>
      obtain ⟨rfl, rfl, rfl⟩ := hrel
      go_wp2
      go_ret
      exact ⟨by simp, HR.out _ (Below.refl _ _), Below.refl _ _, fun k o hk _ => hk⟩
  · obtain ⟨a1, c1, rfl, hm⟩ := own_len h1
    obtain ⟨g, cur0, rfl, hbg, hg0, hc1, hmc, _, _, _⟩ := own_get h1 0 (by omega)
    have hsz : xs.length ≤ cur0.size := by
      obtain ⟨g', cur', e', _, hg0', _, _, x, _, hl⟩ := own_get h1 (xs.length - 1) (by omega)
      injection e' with e'
      injection e' with e'
      subst e'
      rw [hg0] at hg0'
      injection hg0' with e''
      injection e'' with e''
      subst e''
      have := (Array.getElem?_eq_some_iff.1 hl).1
      omega
    have HG := Lib.hid hg0
    clear h1 hg0
    generalize hln : xs.length = n at *
    unfold maxLen at hmc
    go_enter Tryz.func41, Tryz.ntmps41
    go_wp2
    go_loopw [1, 5] (fun q i wr => ∃ k : Nat, k ≤ n ∧ i = .int .i64 k ∧ q = .int .i64 (m + k) ∧ Below b w wr ∧ (∀ j o, w.heap[j]? = some o → j ≠ g → wr.heap[j]? = some o) ∧ ∃ cur : Array Value, wr.heap[g]? = some (.cells cur 139 (0, 0)) ∧ n ≤ cur.size ∧ ∀ j, j < k → cur[j]? = some (.int .u16 (IntKind.u16.wrap (m + j)))) (fun _ i _ => n - (intOf i).toNat)
    case atStart => exact ⟨0, Nat.zero_le _, rfl, by simp, Below.refl _ _, fun j o h _ => h, cur0, HG.out, hsz, fun j h => by omega⟩
    case round =>
      clear HG
      obtain ⟨k, hk, rfl, rfl, hb, hot, cur, hg, hs, hp⟩ := hrel
      have Hot := Lib.hid hot
      have Hp := Lib.hid hp
      have HG := Lib.hid hg
      by_cases hlt : k < n
      · have q1 : wr.cell? ⟨g, k, none⟩ = some (cur[k]'(by omega)) := cell_k hg (Array.getElem?_eq_getElem (by omega))
        have q2 := frozen_of_row wr g k _ _ hg
        have z0 : (0 : Int) ≤ (k : Int) := by omega
        have z1 : (k : Int) < (n : Int) := by omega
        clear hot hp hg
        go_wp2
        go_roundw
        case rel =>
          refine ⟨k + 1, by omega, by go_num, by go_num, hb.setCell (p := ⟨g, k, none⟩) hbg _, ?_, cur.setIfInBounds k (.int .u16 (IntKind.u16.wrap (m + k))), ?_, by simpa using hs, ?_⟩
          · intro j o h hne
            rw [heap_setCell_other _ _ _ _ (by simpa using hne)]
            exact Hot.out j o h hne
          · rw [heap_setCell_same _ _ _ _ _ _ HG.out]
          · intro j hj
            rw [Array.getElem?_setIfInBounds]
            by_cases e : k = j
            · subst e; rw [if_pos rfl, if_pos (by omega)]
            · rw [if_neg e]; exact Hp.out j (by omega)
        case measure => simp [intOf]; omega
      · obtain rfl : k = n := by omega
        have HR : Hid (Own wr b 139 (Value.int .u16) (.slice (some ⟨g, 0, none⟩) k c1) (marksU m k)) := by
          refine ⟨_, c1, by rw [marksU_len], by unfold maxLen; omega, by rw [marksU_len]; exact hc1, .inr ⟨g, cur, rfl, hbg, hg, fun j hj => ?_⟩⟩
          rw [marksU_len] at hj
          rw [hp j hj, marksU_get m k j hj]; rfl
        clear hot hp hg
        go_wp2
        go_ret
        exact ⟨rfl, HR.out, hb, fun j o h hne => Hot.out j o h (hne g _ _ rfl)⟩

theorem keptBut_ofU {w w' : World} {E : TypeId} {b : Nat} {v : Value} {m : Int} {n : Nat} {e : Ending} (h : MarkedU w E b v m n e w') : KeptBut w w' v := fun j cs T fr hr hne => h.2.2.2 j _ hr (fun g n' c' ev e' => hne (by rw [ev, e']; rfl))

end Go.Proofs.YtpcmcopfdghdgaaGreatDoor

namespace Go.Proofs.YtpcmcopfdghdgaaGreatDoor
open Go.RowKit Go.Deep

attribute [local go_sem] run_store_f

/-- Whom a desk suits, as bits. -/
def sbD (wd hg : Int) (ws : List Wn) (ps : List Pn) (x : Dk) : Int := pbN (suL (litW wd hg (x.1, x.2.1) (fun _ => true) ws) (litW wd hg (x.1, x.2.1) (glW wd hg x.1 x.2.1 x.2.2) ws) ps) ps.length

theorem info_u16z : (Tryz.prog.info? 139).map (fun i => (i.zero, i.size, i.bytes)) = some (some (.int .u16 0), 1, 2) := by kernel_rfl

theorem make_u16 (n : Nat) (hn : n ≤ 1048576) (w : World) : (Instr.makeSlice 65 (.int .i64 (n : Int)) (.int .i64 (n : Int))).run Tryz.prog w = .ok (.slice (some ⟨w.heap.size, 0, none⟩) n n) (w.alloc (.cells (madeCells #[.int .u16 0] n) 139)) := by
  obtain ⟨i0, hi, hz0, hz1, hz2⟩ := info_parts info_u16z
  have h := run_make (P := Tryz.prog) w 65 139 i0 _ Tryz.underlying65 hi hz0 .i64 .i64 (n : Int) (n : Int) (by omega) (Int.le_refl _) (by rw [hz2]; omega) (by omega)
  rw [hz1] at h
  simpa [Value.cells] using h

set_option maxRecDepth 100000 in
set_option maxHeartbeats 8000000 in
theorem suitedBy_any (wd hg : Int) (sv dv pv : Value) (ws : List Wn) (ok : RmOk wd hg ws) (hwf : ∀ x ∈ ws, WnWf x) (ds : List Dk) (ps : List Pn) (ha : ds.all (fitD wd hg) = true) (hld : ds.length ≤ 8) (hlp : ps.length ≤ 8) (w : World) (hws : WinsAt w sv ws) (hds : DksAt w dv ds) (hps : PnsAt w pv ps) :
    Calls Tryz.prog 83 #[.agg (roomC wd hg sv), dv, pv] w fun e w' => (∃ v, e = .returned v ∧ Own w' w.heap.size 139 (Value.int .u16) v (ds.map (sbD wd hg ws ps))) ∧ Below w.heap.size w w' := by
  have HSU : Hid (∀ (x : Dk), x ∈ ds → ∀ V, WinsAt V sv ws → PnsAt V pv ps → Calls Tryz.prog 125 #[.agg (roomC wd hg sv), .agg (dkC x), pv] V fun e w' => e = .returned (.int .u16 (sbD wd hg ws ps x)) ∧ Below V.heap.size V w') := Lib.hid (fun x hx V h1 h2 => by
    obtain ⟨f1, f2, f3⟩ := fitD_get (List.all_eq_true.1 ha x hx)
    exact suited_any wd hg sv pv ws ok hwf x.1 x.2.1 x.2.2 f1 f2 f3 ps hlp V h1 h2)
  have HW := Lib.hid hws
  have HDK := Lib.hid hds
  have HPN := Lib.hid hps
  obtain ⟨da, dc, rfl, -, -, -⟩ := hds
  have hmk := fun w => make_u16 ds.length (by omega) w
  clear hws hps ok hwf ha hlp
  generalize sbD wd hg ws ps = F at *
  generalize hnn : ds.length = n at *
  have HN := Lib.hid hnn
  clear hnn
  go_enter Tryz.func83, Tryz.ntmps83
  go_upto_region 1 with (fail)
  refine abs_world (fun W => W.heap[w.heap.size]? = some (.cells (roomC wd hg sv) 70 (0, 0)) ∧ Below w.heap.size w W) ⟨heap_alloc_new _ _, (Below.refl _ _).alloc (Nat.le_refl _) _⟩ ?_
  rintro W ⟨h0, hb⟩
  have H0 := Lib.hid h0
  clear h0
  go_upto_region 2 with (fail)
  refine abs_world (fun V => V.heap[w.heap.size]? = some (.cells (roomC wd hg sv) 70 (0, 0)) ∧ V.heap[W.heap.size]? = some (.cells (madeCells #[.int .u16 0] n) 139 (0, 0)) ∧ Below w.heap.size w V) ⟨below_row ((Below.refl W.heap.size _).alloc (Nat.le_refl _) _) H0.out, heap_alloc_new _ _, hb.alloc hb.size _⟩ ?_
  have hl0 := row_lt H0.out
  clear H0 hb hmk
  generalize W.heap.size = ub at *
  rintro V ⟨h0, hu, hb⟩
  have H0 := Lib.hid h0
  have HU := Lib.hid hu
  clear h0 hu
  go_upto_region 3 with (fail)
  go_loopw [15] (fun i wr => ∃ k : Nat, k ≤ n ∧ i = .int .i64 (k : Int) ∧ wr.heap[w.heap.size]? = some (.cells (roomC wd hg sv) 70 (0, 0)) ∧ Below w.heap.size w wr ∧ ∃ cur : Array Value, wr.heap[ub]? = some (.cells cur 139 (0, 0)) ∧ cur.size = n ∧ ∀ j x, j < k → ds[j]? = some x → cur[j]? = some (.int .u16 (F x))) (fun i _ => n - (intOf i).toNat)
  case atStart => exact ⟨0, Nat.zero_le _, rfl, H0.out, hb, _, HU.out, size_madeCells _ _, fun j x hj => by omega⟩
  case round =>
    clear H0 HU hb
    obtain ⟨k, hk, rfl, h0, hb, cur, hu, hs, hp⟩ := hrel
    have H0 := Lib.hid h0
    have HU := Lib.hid hu
    have HP := Lib.hid hp
    clear h0 hu hp
    by_cases hlt : k < n
    · have hx : ds[k]? = some (ds[k]'(by rw [HN.out]; exact hlt)) := List.getElem?_eq_getElem _
      obtain ⟨g, o, rfl, hc⟩ := dk_at (dks_below HDK.out hb) hx
      have HCl := Lib.hid hc
      have HSX := Lib.hid (HSU.out _ (List.mem_of_getElem? hx))
      generalize (ds[k]'(by rw [HN.out]; exact hlt)) = x at *
      have HXX := Lib.hid hx
      have z1 : (k : Int) < (n : Int) := by omega
      have z2 : (0 : Int) ≤ (k : Int) := by omega
      have z3 : IntKind.i64.wrap ((k : Int) + 1) = (k : Int) + 1 := by rw [IntWalk.i64_in _ (by omega)]
      clear hc hx
      go_upto_region 5 with (first | (refine wpList_load_cells rfl 128 _ rfl g (o + k * 3) 3 rfl _ Tryz.underlying128 rfl info_desk (dkC x) rfl HCl.out ?_) | (refine wpList_store_part rfl 128 _ _ rfl _ 0 (dkC x) rfl rfl 128 _ (heap_alloc_new _ _) info_desk (Nat.le_refl _) (dk_one _) ?_; rw [laid_allr _ _ (by rfl)]))
      refine abs_world (fun X => X.heap[w.heap.size]? = some (.cells (roomC wd hg sv) 70 (0, 0)) ∧ X.heap[ub]? = some (.cells cur 139 (0, 0)) ∧ X.heap[wr.heap.size]? = some (.cells (dkC x) 128 (0, 0)) ∧ Below w.heap.size w X) ⟨below_row (sbZ _ _ _) H0.out, below_row (sbZ _ _ _) HU.out, setRow_heap _ _ _ _ _ _ (heap_alloc_new _ _), hb.trans ((sbZ _ _ _).mono hb.size)⟩ ?_
      clear H0 HU hb
      generalize wr.heap.size = db at *
      rintro X ⟨h0, hu, hbd, hb⟩
      have H0 := Lib.hid h0
      have HU := Lib.hid hu
      have HB := Lib.hid hbd
      clear h0 hu hbd
      have HV := Lib.hid (wins_below HW.out hb)
      have HPs := Lib.hid (pns_below HPN.out hb)
      have q1 : X.cell? ⟨ub, k, none⟩ = some (cur[k]'(by omega)) := cell_k HU.out (Array.getElem?_eq_getElem (by omega))
      have q2 := frozen_of_row X ub k _ _ HU.out
      go_upto_region 6 with (first | (refine wpList_load_part rfl 70 _ rfl w.heap.size 0 3 rfl 70 (roomC wd hg sv) (0, 0) _ H0.out Tryz.underlying70 rfl info_room (room_fits _ _ _) _ (room_all _ _ _) ?_) | (refine wpList_load_part rfl 128 _ rfl db 0 3 rfl 128 (dkC x) (0, 0) _ HB.out Tryz.underlying128 rfl info_desk (dk_fits _) _ (dk_all _) ?_) | (go_at_call 125; refine (HSX.out _ HV.out HPs.out).mono ?_; rintro e W5 ⟨rfl, hb5⟩; replace H0 := Lib.hid (below_row hb5 H0.out); replace HU := Lib.hid (below_row hb5 HU.out); replace hb := hb.trans (hb5.mono hb.size); clear q1 q2 hb5; have q1 : W5.cell? ⟨ub, k, none⟩ = some (cur[k]'(by omega)) := cell_k HU.out (Array.getElem?_eq_getElem (by omega)); have q2 := frozen_of_row W5 ub k _ _ HU.out))
      go_wp2
      go_roundw
      case rel =>
        refine ⟨k + 1, by omega, by go_num, (heap_setCell_other _ _ _ _ (by simp; omega)).trans H0.out, hb.setCell (p := ⟨ub, k, none⟩) (show w.heap.size ≤ ub by omega) _, _, heap_setCell_same _ _ _ _ _ _ HU.out, by simpa using hs, fun j y hj hy => ?_⟩
        by_cases e : j = k
        · subst e
          rw [HXX.out] at hy
          obtain rfl := Option.some.inj hy
          rw [Array.getElem?_setIfInBounds, if_pos rfl, if_pos (by omega)]
        · rw [Array.getElem?_setIfInBounds, if_neg (fun h => e h.symm)]
          exact HP.out j y (by omega) hy
      case measure => simp [intOf]; omega
    · obtain rfl : k = n := by omega
      have HR : Hid (Own wr w.heap.size 139 (Value.int .u16) (.slice (some ⟨ub, 0, none⟩) k k) (ds.map F)) := by
        refine ⟨_, k, by rw [List.length_map, HN.out], by unfold maxLen; omega, by rw [List.length_map, HN.out]; exact Nat.le_refl _, .inr ⟨ub, cur, rfl, by omega, HU.out, fun j hj => ?_⟩⟩
        rw [List.length_map, HN.out] at hj
        have hy : ds[j]? = some (ds[j]'(by rw [HN.out]; exact hj)) := List.getElem?_eq_getElem _
        rw [HP.out j _ hj hy, List.getElem?_map, hy]
        rfl
      clear HP
      go_wp2
      go_ret
      exact ⟨⟨_, rfl, HR.out⟩, hb⟩

set_option maxRecDepth 100000 in
set_option maxHeartbeats 4000000 in
theorem iSb_n1 (wd hg : Int) (sv dv pv : Value) (ws : List Wn) (ds : List Dk) (ps : List Pn) (e0 e1 e2 e3 : Addr) (w : World) (hws : WinsAt w sv ws) (hds : DksAt w dv ds) (hps : PnsAt w pv ps) (hE : ErrsAt w e0 e1 e2 e3) (hn : refN (okRm wd hg ws && ps.all fitP) (ds.all (fitD wd hg)) (limB ds.length ps.length) = 1) :
    Calls Tryz.prog 33 #[.agg (roomC wd hg sv), dv, pv] w fun e w' => e = .returned (.tuple #[.slice none 0 0, .int .i64 1]) ∧ Below w.heap.size w w' := by
  have HSR : Hid (∀ V, WinsAt V sv ws → DksAt V dv ds → PnsAt V pv ps → ErrsAt V e0 e1 e2 e3 → Calls Tryz.prog 81 #[.agg (roomC wd hg sv), dv, pv] V fun e w' => e = .returned (.iface 267 (.pointer (some e0))) ∧ Below V.heap.size V w') := Lib.hid (fun V h1 h2 h3 h4 => by have := seatRef_any wd hg sv dv pv ws ds ps e0 e1 e2 e3 V h1 h2 h3 h4; rw [hn] at this; exact this)
  have hne := fun w => run_neq_held_nil (P := Tryz.prog) (w := w) 100 267 (.pointer (some e0)) (by kernel_rfl)
  have HW := Lib.hid hws
  have HDK := Lib.hid hds
  have HPN := Lib.hid hps
  have HX0 := Lib.hid hE
  clear hws hds hps hE hn
  go_enter Tryz.func33, Tryz.ntmps33
  go_upto_region 1 with (fail)
  refine abs_world (fun W => W.heap[w.heap.size]? = some (.cells (roomC wd hg sv) 70 (0, 0)) ∧ Below w.heap.size w W) ⟨heap_alloc_new _ _, (Below.refl _ _).alloc (Nat.le_refl _) _⟩ ?_
  rintro W ⟨h0, hbz⟩
  have H0 := Lib.hid h0
  have HV := Lib.hid (wins_below HW.out hbz)
  have HD := Lib.hid (dks_below HDK.out hbz)
  have HP := Lib.hid (pns_below HPN.out hbz)
  have HX := Lib.hid (errs_below HX0.out hbz)
  clear h0
  go_wp2_with (first | (refine wpList_load_part rfl 70 _ rfl w.heap.size 0 3 rfl 70 (roomC wd hg sv) (0, 0) _ H0.out Tryz.underlying70 rfl info_room (room_fits _ _ _) _ (room_all _ _ _) ?_) | (go_at_call 81; refine (HSR.out _ HV.out HD.out HP.out HX.out).mono ?_; rintro e W1 ⟨rfl, hb1⟩; replace H0 := Lib.hid (below_row hb1 H0.out); replace HV := Lib.hid (wins_below HV.out hb1); replace HD := Lib.hid (dks_below HD.out hb1); replace HP := Lib.hid (pns_below HP.out hb1); replace HX := Lib.hid (errs_below HX.out hb1); replace hbz := hbz.trans (hb1.mono hbz.size); clear hb1) | (go_at_call 82; refine (codeOf_any HX.out 1).mono ?_; rintro e W4 ⟨rfl, rfl⟩))
  go_ret2
  exact ⟨rfl, hbz⟩

set_option maxRecDepth 100000 in
set_option maxHeartbeats 4000000 in
theorem iSb_n2 (wd hg : Int) (sv dv pv : Value) (ws : List Wn) (ds : List Dk) (ps : List Pn) (e0 e1 e2 e3 : Addr) (w : World) (hws : WinsAt w sv ws) (hds : DksAt w dv ds) (hps : PnsAt w pv ps) (hE : ErrsAt w e0 e1 e2 e3) (hn : refN (okRm wd hg ws && ps.all fitP) (ds.all (fitD wd hg)) (limB ds.length ps.length) = 2) :
    Calls Tryz.prog 33 #[.agg (roomC wd hg sv), dv, pv] w fun e w' => e = .returned (.tuple #[.slice none 0 0, .int .i64 2]) ∧ Below w.heap.size w w' := by
  have HSR : Hid (∀ V, WinsAt V sv ws → DksAt V dv ds → PnsAt V pv ps → ErrsAt V e0 e1 e2 e3 → Calls Tryz.prog 81 #[.agg (roomC wd hg sv), dv, pv] V fun e w' => e = .returned (.iface 267 (.pointer (some e1))) ∧ Below V.heap.size V w') := Lib.hid (fun V h1 h2 h3 h4 => by have := seatRef_any wd hg sv dv pv ws ds ps e0 e1 e2 e3 V h1 h2 h3 h4; rw [hn] at this; exact this)
  have hne := fun w => run_neq_held_nil (P := Tryz.prog) (w := w) 100 267 (.pointer (some e1)) (by kernel_rfl)
  have HW := Lib.hid hws
  have HDK := Lib.hid hds
  have HPN := Lib.hid hps
  have HX0 := Lib.hid hE
  clear hws hds hps hE hn
  go_enter Tryz.func33, Tryz.ntmps33
  go_upto_region 1 with (fail)
  refine abs_world (fun W => W.heap[w.heap.size]? = some (.cells (roomC wd hg sv) 70 (0, 0)) ∧ Below w.heap.size w W) ⟨heap_alloc_new _ _, (Below.refl _ _).alloc (Nat.le_refl _) _⟩ ?_
  rintro W ⟨h0, hbz⟩
  have H0 := Lib.hid h0
  have HV := Lib.hid (wins_below HW.out hbz)
  have HD := Lib.hid (dks_below HDK.out hbz)
  have HP := Lib.hid (pns_below HPN.out hbz)
  have HX := Lib.hid (errs_below HX0.out hbz)
  clear h0
  go_wp2_with (first | (refine wpList_load_part rfl 70 _ rfl w.heap.size 0 3 rfl 70 (roomC wd hg sv) (0, 0) _ H0.out Tryz.underlying70 rfl info_room (room_fits _ _ _) _ (room_all _ _ _) ?_) | (go_at_call 81; refine (HSR.out _ HV.out HD.out HP.out HX.out).mono ?_; rintro e W1 ⟨rfl, hb1⟩; replace H0 := Lib.hid (below_row hb1 H0.out); replace HV := Lib.hid (wins_below HV.out hb1); replace HD := Lib.hid (dks_below HD.out hb1); replace HP := Lib.hid (pns_below HP.out hb1); replace HX := Lib.hid (errs_below HX.out hb1); replace hbz := hbz.trans (hb1.mono hbz.size); clear hb1) | (go_at_call 82; refine (codeOf_any HX.out 2).mono ?_; rintro e W4 ⟨rfl, rfl⟩))
  go_ret2
  exact ⟨rfl, hbz⟩

set_option maxRecDepth 100000 in
set_option maxHeartbeats 4000000 in
theorem iSb_n3 (wd hg : Int) (sv dv pv : Value) (ws : List Wn) (ds : List Dk) (ps : List Pn) (e0 e1 e2 e3 : Addr) (w : World) (hws : WinsAt w sv ws) (hds : DksAt w dv ds) (hps : PnsAt w pv ps) (hE : ErrsAt w e0 e1 e2 e3) (hn : refN (okRm wd hg ws && ps.all fitP) (ds.all (fitD wd hg)) (limB ds.length ps.length) = 3) :
    Calls Tryz.prog 33 #[.agg (roomC wd hg sv), dv, pv] w fun e w' => e = .returned (.tuple #[.slice none 0 0, .int .i64 3]) ∧ Below w.heap.size w w' := by
  have HSR : Hid (∀ V, WinsAt V sv ws → DksAt V dv ds → PnsAt V pv ps → ErrsAt V e0 e1 e2 e3 → Calls Tryz.prog 81 #[.agg (roomC wd hg sv), dv, pv] V fun e w' => e = .returned (.iface 267 (.pointer (some e2))) ∧ Below V.heap.size V w') := Lib.hid (fun V h1 h2 h3 h4 => by have := seatRef_any wd hg sv dv pv ws ds ps e0 e1 e2 e3 V h1 h2 h3 h4; rw [hn] at this; exact this)
  have hne := fun w => run_neq_held_nil (P := Tryz.prog) (w := w) 100 267 (.pointer (some e2)) (by kernel_rfl)
  have HW := Lib.hid hws
  have HDK := Lib.hid hds
  have HPN := Lib.hid hps
  have HX0 := Lib.hid hE
  clear hws hds hps hE hn
  go_enter Tryz.func33, Tryz.ntmps33
  go_upto_region 1 with (fail)
  refine abs_world (fun W => W.heap[w.heap.size]? = some (.cells (roomC wd hg sv) 70 (0, 0)) ∧ Below w.heap.size w W) ⟨heap_alloc_new _ _, (Below.refl _ _).alloc (Nat.le_refl _) _⟩ ?_
  rintro W ⟨h0, hbz⟩
  have H0 := Lib.hid h0
  have HV := Lib.hid (wins_below HW.out hbz)
  have HD := Lib.hid (dks_below HDK.out hbz)
  have HP := Lib.hid (pns_below HPN.out hbz)
  have HX := Lib.hid (errs_below HX0.out hbz)
  clear h0
  go_wp2_with (first | (refine wpList_load_part rfl 70 _ rfl w.heap.size 0 3 rfl 70 (roomC wd hg sv) (0, 0) _ H0.out Tryz.underlying70 rfl info_room (room_fits _ _ _) _ (room_all _ _ _) ?_) | (go_at_call 81; refine (HSR.out _ HV.out HD.out HP.out HX.out).mono ?_; rintro e W1 ⟨rfl, hb1⟩; replace H0 := Lib.hid (below_row hb1 H0.out); replace HV := Lib.hid (wins_below HV.out hb1); replace HD := Lib.hid (dks_below HD.out hb1); replace HP := Lib.hid (pns_below HP.out hb1); replace HX := Lib.hid (errs_below HX.out hb1); replace hbz := hbz.trans (hb1.mono hbz.size); clear hb1) | (go_at_call 82; refine (codeOf_any HX.out 3).mono ?_; rintro e W4 ⟨rfl, rfl⟩))
  go_ret2
  exact ⟨rfl, hbz⟩

set_option maxRecDepth 100000 in
set_option maxHeartbeats 4000000 in
theorem iSb_y (wd hg : Int) (sv dv pv : Value) (ws : List Wn) (ds : List Dk) (ps : List Pn) (ok : RmOk wd hg ws) (hwf : ∀ x ∈ ws, WnWf x) (e0 e1 e2 e3 : Addr) (w : World) (hws : WinsAt w sv ws) (hds : DksAt w dv ds) (hps : PnsAt w pv ps) (hE : ErrsAt w e0 e1 e2 e3) (hn : refN (okRm wd hg ws && ps.all fitP) (ds.all (fitD wd hg)) (limB ds.length ps.length) = 0) (ha : ds.all (fitD wd hg) = true) (hld : ds.length ≤ 8) (hlp : ps.length ≤ 8) :
    Calls Tryz.prog 33 #[.agg (roomC wd hg sv), dv, pv] w fun e w' => (∃ v, e = .returned (.tuple #[v, .int .i64 0]) ∧ Own w' w.heap.size 139 (Value.int .u16) v (ds.map (sbD wd hg ws ps))) ∧ Below w.heap.size w w' := by
  have HSR : Hid (∀ V, WinsAt V sv ws → DksAt V dv ds → PnsAt V pv ps → ErrsAt V e0 e1 e2 e3 → Calls Tryz.prog 81 #[.agg (roomC wd hg sv), dv, pv] V fun e w' => e = .returned .nilIface ∧ Below V.heap.size V w') := Lib.hid (fun V h1 h2 h3 h4 => by have := seatRef_any wd hg sv dv pv ws ds ps e0 e1 e2 e3 V h1 h2 h3 h4; rw [hn] at this; exact this)
  have hne := fun w => run_neq_nil_nil (P := Tryz.prog) (w := w) 100 (by kernel_rfl)
  have HSB := Lib.hid (fun V h1 h2 h3 => suitedBy_any wd hg sv dv pv ws ok hwf ds ps ha hld hlp V h1 h2 h3)
  have HW := Lib.hid hws
  have HDK := Lib.hid hds
  have HPN := Lib.hid hps
  have HX0 := Lib.hid hE
  clear hws hds hps hE hn ha hld hlp ok hwf
  generalize ds.map (sbD wd hg ws ps) = xs at *
  go_enter Tryz.func33, Tryz.ntmps33
  go_upto_region 1 with (fail)
  refine abs_world (fun W => W.heap[w.heap.size]? = some (.cells (roomC wd hg sv) 70 (0, 0)) ∧ Below w.heap.size w W) ⟨heap_alloc_new _ _, (Below.refl _ _).alloc (Nat.le_refl _) _⟩ ?_
  rintro W ⟨h0, hbz⟩
  have H0 := Lib.hid h0
  have HV := Lib.hid (wins_below HW.out hbz)
  have HD := Lib.hid (dks_below HDK.out hbz)
  have HP := Lib.hid (pns_below HPN.out hbz)
  have HX := Lib.hid (errs_below HX0.out hbz)
  clear h0
  go_wp2_with (first | (refine wpList_load_part rfl 70 _ rfl w.heap.size 0 3 rfl 70 (roomC wd hg sv) (0, 0) _ H0.out Tryz.underlying70 rfl info_room (room_fits _ _ _) _ (room_all _ _ _) ?_) | (go_at_call 81; refine (HSR.out _ HV.out HD.out HP.out HX.out).mono ?_; rintro e W1 ⟨rfl, hb1⟩; replace H0 := Lib.hid (below_row hb1 H0.out); replace HV := Lib.hid (wins_below HV.out hb1); replace HD := Lib.hid (dks_below HD.out hb1); replace HP := Lib.hid (pns_below HP.out hb1); replace HX := Lib.hid (errs_below HX.out hb1); replace hbz := hbz.trans (hb1.mono hbz.size); clear hb1) | (go_at_call 83; have hlz := hbz.size; refine (HSB.out _ HV.out HD.out HP.out).mono ?_; rintro e W5 ⟨⟨v5, rfl, hv5⟩, hb5⟩; have HO5 := Lib.hid (own_below hv5 (Below.refl _ _) hlz); clear hv5; replace H0 := Lib.hid (below_row hb5 H0.out); replace HV := Lib.hid (wins_below HV.out hb5); replace HD := Lib.hid (dks_below HD.out hb5); replace HP := Lib.hid (pns_below HP.out hb5); replace HX := Lib.hid (errs_below HX.out hb5); replace hbz := hbz.trans (hb5.mono hbz.size); clear hb5))
  go_ret2
  exact ⟨⟨_, rfl, HO5.out⟩, hbz⟩

end Go.Proofs.YtpcmcopfdghdgaaGreatDoor

namespace Go.Proofs.YtpcmcopfdghdgaaGreatDoor
open Go.RowKit

attribute [local go_sem] run_store_f

theorem wpList_load_cellsG {P : Program} {ops : Array Oper} {rest : List Oper} {o : Oper} {a : Act} {w : World} {Q : Exit → Act → World → Prop} (ty : TypeId) (x : Operand) (ho : o.op = .load ty x)
    (g off n : Nat) (hx : a.eval x = .pointer (some ⟨g, off, none⟩)) (hw : Region.wanted o (yielded ops a.tmps) = true) (d : TypeDesc)
    (hu : P.underlying ty = some d) (hd : (match d with | .struct _ | .array _ _ => true | _ => false) = true) (hi : (P.info? ty).map (·.size) = some n)
    (vs : Array Value) (hn : vs.size = n) (hc : ∀ j v, vs[j]? = some v → w.cell? ⟨g, off + j, none⟩ = some v) (h : wpList P ops Q rest (a.put o.dst (.agg vs)) w) : wpList P ops Q (o :: rest) a w := by
  refine wpList_step fun K hK => ?_
  simp only [hw, if_true]
  unfold Oper.wp execOp
  simp only [ho, hx, Instr.loadAt, Instr.sureAddr, Sem.run_bind, Sem.run_pure, Result.andThen_ok, run_loadVar_cells w g off n ty d hu hd hi vs hn hc]
  exact hK _ _ h

theorem l03Dk_any (wd hg : Int) (iw : I8 wd) (ih : I8 hg) (sv : Value) (x : Dk) (hx : DkWf x) (gb : Nat) (T : TypeId) (fr : Nat × Nat) (w : World) (hb0 : w.heap[gb]? = some (.cells (roomC wd hg sv) T fr)) :
    Calls Tryz.prog 151 #[.pointer (some ⟨gb, 0, none⟩), .agg (dkC x)] w fun e w' => e = .returned (.bool (fitD wd hg x)) ∧ Below w.heap.size w w' :=
  l03Desk_any wd hg x.1 x.2.1 x.2.2 iw ih hx.1 hx.2.1 hx.2.2 sv gb T fr w hb0

theorem l03GlDk_any (wd hg : Int) (sv : Value) (ws : List Wn) (ok : RmOk wd hg ws) (hwf : ∀ x ∈ ws, WnWf x) (x : Dk) (hx : fitD wd hg x = true) (gb : Nat) (T : TypeId) (fr : Nat × Nat) (w : World) (hb0 : w.heap[gb]? = some (.cells (roomC wd hg sv) T fr)) (hws : WinsAt w sv ws) :
    Calls Tryz.prog 154 #[.pointer (some ⟨gb, 0, none⟩), .agg (dkC x)] w fun e w' => e = .returned (.float .f32 (dkG wd hg ws x)) ∧ Below w.heap.size w w' :=
  l03Glare_any wd hg sv ws ok hwf x.1 x.2.1 x.2.2 (fitD_get hx).1 gb T fr w hb0 hws

/-- The code of a list of desks. -/
def codeD (ok fine : Bool) (n : Nat) : Int := if !ok then 1 else if !fine then 2 else if 8 < n then 3 else 0

theorem codeG_is (ok num all : Bool) (n : Nat) : codeG ok num all n = codeD ok (num && all) n := rfl

theorem codeD_hit {ok fine : Bool} {n : Nat} (h : codeR ok fine = 0) (hn : 8 < n) : codeD ok fine n = 3 := by
  cases ok <;> cases fine <;> simp_all [codeR, codeD]

theorem codeD_low {ok fine : Bool} {n : Nat} (hn : ¬ 8 < n) : codeD ok fine n = codeR ok fine := by
  cases ok <;> cases fine <;> simp_all [codeR, codeD]

theorem codeD_bad {ok fine : Bool} {n : Nat} (h : codeR ok fine ≠ 0) : codeD ok fine n = codeR ok fine := by
  cases ok <;> cases fine <;> simp_all [codeR, codeD]

set_option maxRecDepth 100000 in
set_option maxHeartbeats 4000000 in
theorem l03Desks_any (wd hg : Int) (iw : I8 wd) (ih : I8 hg) (sv dv : Value) (ws : List Wn) (hwf : ∀ x ∈ ws, WnWf x) (ds : List Dk) (hdf : ∀ x ∈ ds, DkWf x) (fine : Bool) (gb : Nat) (T : TypeId) (fr : Nat × Nat) (w : World) (hb0 : w.heap[gb]? = some (.cells (roomC wd hg sv) T fr)) (hws : WinsAt w sv ws) (hds : DksAt w dv ds) :
    Calls Tryz.prog 114 #[.pointer (some ⟨gb, 0, none⟩), dv, .bool fine] w fun e w' => e = .returned (.int .i64 (codeD (okRm wd hg ws) (fine && ds.all (fitD wd hg)) ds.length)) ∧ Below w.heap.size w w' := by
  have HAS := Lib.hid (fun f W h1 h2 => l03Asked_any wd hg iw ih sv ws hwf f gb T fr W h1 h2)
  have HDS := Lib.hid (fun x (hx : x ∈ ds) W h => l03Dk_any wd hg iw ih sv x (hdf x hx) gb T fr W h)
  have HDK := Lib.hid hds
  have HW := Lib.hid hws
  have HB := Lib.hid hb0
  obtain ⟨a, cap, rfl, hl1, hl2, _⟩ := hds
  unfold maxLen at hl2
  have HCH := Lib.hid (fun h hn => @codeD_hit (okRm wd hg ws) (fine && ds.all (fitD wd hg)) ds.length h hn)
  have HCL := Lib.hid (fun hn => @codeD_low (okRm wd hg ws) (fine && ds.all (fitD wd hg)) ds.length hn)
  have HCB := Lib.hid (fun h => @codeD_bad (okRm wd hg ws) (fine && ds.all (fitD wd hg)) ds.length h)
  have HALL : Hid (ds.take ds.length = ds) := Lib.hid List.take_length
  generalize codeD (okRm wd hg ws) (fine && ds.all (fitD wd hg)) ds.length = cd at *
  generalize hn : ds.length = n at *
  have HN := Lib.hid hn
  have hb : Below w.heap.size w w := Below.refl _ _
  clear hn hdf hwf hws hb0 iw ih
  go_enter Tryz.func114, Tryz.ntmps114
  go_wp2
  go_loopw [2, 7] (fun f i wr => ∃ k : Nat, k ≤ n ∧ i = .int .i64 (k : Int) ∧ f = .bool (fine && (ds.take k).all (fitD wd hg)) ∧ wr.heap[gb]? = some (.cells (roomC wd hg sv) T fr) ∧ Below w.heap.size w wr) (fun _ i _ => n - (intOf i).toNat)
  case atStart => exact ⟨0, Nat.zero_le _, rfl, by rw [List.take_zero]; simp, HB.out, hb⟩
  case round =>
    obtain ⟨k, hk, rfl, rfl, h0, hbz⟩ := hrel
    have H0 := Lib.hid h0
    clear h0 hb
    by_cases hlt : k < n
    · have hx : ds[k]? = some (ds[k]'(by rw [HN.out]; exact hlt)) := List.getElem?_eq_getElem _
      obtain ⟨g, o, rfl, hc⟩ := dk_at (dks_below HDK.out hbz) hx
      have HCl := Lib.hid hc
      have hts : ds.take (k + 1) = ds.take k ++ [ds[k]'(by rw [HN.out]; exact hlt)] := by rw [List.take_succ_eq_append_getElem]
      have HDX := Lib.hid (HDS.out _ (List.mem_of_getElem? hx))
      generalize (ds[k]'(by rw [HN.out]; exact hlt)) = x at *
      have HT : Hid ((fine && (ds.take (k + 1)).all (fitD wd hg)) = ((fine && (ds.take k).all (fitD wd hg)) && fitD wd hg x)) := Lib.hid (by rw [hts, List.all_append]; simp [Bool.and_assoc])
      have z1 : (k : Int) < (n : Int) := by omega
      have z2 : (0 : Int) ≤ (k : Int) := by omega
      clear hc hx hts HDS HAS HCH HCL HCB HALL
      generalize (fine && (ds.take k).all (fitD wd hg)) = b at *
      cases b with
      | false =>
        go_wp2
        go_roundw
        case rel => exact ⟨k + 1, by omega, by go_num, by rw [HT.out]; rfl, H0.out, hbz⟩
        case measure => simp [intOf]; omega
      | true =>
        go_wp2_with (first | (refine wpList_load_cellsG 128 _ rfl g (o + k * 3) 3 rfl rfl _ Tryz.underlying128 rfl info_desk (dkC x) rfl HCl.out ?_) | (go_at_call 151; refine (HDX.out _ H0.out).mono ?_; rintro e W1 ⟨rfl, hb1⟩; replace H0 := Lib.hid (below_row hb1 H0.out); replace hbz := hbz.trans (hb1.mono hbz.size); clear hb1))
        go_roundw
        case rel => exact ⟨k + 1, by omega, by go_num, by rw [HT.out]; rfl, H0.out, hbz⟩
        case measure => simp [intOf]; omega
    · obtain rfl : k = n := by omega
      rw [HALL.out]
      have HAX := Lib.hid (HAS.out (fine && ds.all (fitD wd hg)) wr H0.out (wins_below HW.out hbz))
      generalize (fine && ds.all (fitD wd hg)) = b at *
      generalize codeR (okRm wd hg ws) b = c at *
      clear HALL HAS HDS
      by_cases hc0 : c = 0
      · subst hc0
        by_cases h8 : 8 < k
        · have z8 : (8 : Int) < (k : Int) := by omega
          have E := Lib.hid (HCH.out rfl h8)
          clear HCL HCB HCH
          go_wp2_with (go_at_call 152; refine HAX.out.mono ?_; rintro e W1 ⟨rfl, hb1⟩)
          go_ret
          exact ⟨by rw [E.out]; rfl, hbz.trans (hb1.mono hbz.size)⟩
        · have z8 : (k : Int) ≤ 8 := by omega
          have E := Lib.hid (HCL.out h8)
          clear HCL HCB HCH
          go_wp2_with (go_at_call 152; refine HAX.out.mono ?_; rintro e W1 ⟨rfl, hb1⟩)
          go_ret
          exact ⟨by rw [E.out]; rfl, hbz.trans (hb1.mono hbz.size)⟩
      · have zc : (c == 0) = false := by simpa using hc0
        have E := Lib.hid (HCB.out hc0)
        clear HCL HCB HCH
        go_wp2_with (go_at_call 152; refine HAX.out.mono ?_; rintro e W1 ⟨rfl, hb1⟩)
        go_ret
        exact ⟨by rw [E.out]; rfl, hbz.trans (hb1.mono hbz.size)⟩

end Go.Proofs.YtpcmcopfdghdgaaGreatDoor
