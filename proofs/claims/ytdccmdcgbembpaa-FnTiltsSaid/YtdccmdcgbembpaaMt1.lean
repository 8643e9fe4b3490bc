/-
  IntA, Sun, Eq, Hours, Held, SrA, SrH, SrB, SrC, SrD, Ok, Valid, Open, LawValid, Fns, Up, Ground, Fall, FallOn, Add, Day, SrE, SrF, SrG, FtP, FtQ, CutOff, FtW, TiltTo, PassFor, OpenFor.
-/
import Derived.Test.YtdccmdcgbembpaaGenL
import Derived.Test.YtdccmdcgbembpaaLaw
import Derived.Deep.Slices
import Derived.ChangeSlices
import Derived.ChangeShapes
import Derived.ChangeSame
import Derived.WalkSpells
import Derived.Test.YtdccmdcgbembpaaRow
import Derived.Test.YtdccmdcgbembpaaRows
import Derived.WalkKit
import Derived.WalkLawsBesides
import Derived.Lib.Hide
import Derived.Deep.Cut
import Derived.Deep.DeepCutAuto
import Derived.Laws.StructEq
import Derived.RangeFuncNested
import Derived.RangeFuncBound
import Derived.RangeFuncCalls
import Derived.RangeFuncLeaves
import Derived.RangeFuncFrom
import Derived.RangeFuncWrites
import Derived.Shelf.Abstract
import Derived.Shelf.RegionOpen
import Derived.OwnWalkIn
import Derived.TacticsInMore
import Derived.LoopNIn
import Derived.LoopIn
import Derived.Test.YtdccmdcgbembpaaRound
import Derived.IntWalk
import Derived.Laws.AppendOwn
import Derived.Laws.BitsAllLaws
import Derived.Test.YtdccmdcgbembpaaBlk
import Derived.Test.YtdccmdcgbembpaaMul
import Derived.Test.YtdccmdcgbembpaaAngle
import Derived.Test.YtdccmdcgbembpaaSame
import Derived.Test.YtdccmdcgbembpaaBlind
import Derived.Test.YtdccmdcgbembpaaNew
import Derived.Test.YtdccmdcgbembpaaNear
import Derived.Test.YtdccmdcgbembpaaBok
import Derived.Test.YtdccmdcgbembpaaShut
import Derived.Test.YtdccmdcgbembpaaWithin
import Derived.Test.YtdccmdcgbembpaaBhd
import Derived.Test.YtdccmdcgbembpaaPasser

namespace Go.Proofs.Ytdccmdcgbembpaa
open Go.ChangeShapes Go.WideShapes Go.ChangeAt Go.RowKit

/-- The numbers that a slice holds. -/
def IntsAt (W : World) (v : Value) (zs : List Int) : Prop :=
  ∃ a cap, v = .slice a zs.length cap ∧ zs.length ≤ cap ∧ cap ≤ maxLen ∧ ∀ i x, zs[i]? = some x → ∃ g o, a = some ⟨g, o, none⟩ ∧ W.cell? ⟨g, o + i, none⟩ = some (.int .i64 x)

theorem ints_below {W W' : World} {v : Value} {zs : List Int} (h : IntsAt W v zs) (hb : Below W.heap.size W W') : IntsAt W' v zs := by
  obtain ⟨a, cap, h1, h2, h3, h4⟩ := h
  refine ⟨a, cap, h1, h2, h3, fun i x hx => ?_⟩
  obtain ⟨g, o, e, c0⟩ := h4 i x hx
  exact ⟨g, o, e, (hb.cell (World.block_lt_of_cell? W _ c0)).trans c0⟩

set_option maxRecDepth 100000 in
theorem open_intS {H : Type} {enc : TypeId × Value → H} {W : World} {b0 base : Nat} {spare : Nat → Bool} {held : Bool} {r : Reach} {v : Value} {d : DataW H} {p : List MemPlace}
    (hv : Value.okWide Try.prog W r b0 34 v) (h : DataW.Trod enc Try.prog W base spare held 34 v d p) : ∃ zs, IntsAt W v zs ∧ ∀ z ∈ zs, (Lit.int .i64 z).wf = true := by
  obtain ⟨a0, len0, cap0, rfl⟩ := okWide_slice Try.underlying34 hv
  obtain ⟨fuel, hf⟩ := h
  rcases open_ints Try.underlying34 Try.underlying2 (by kernel_rfl) hf with ⟨hcs, _⟩ | ⟨a, len, cap, zs, hcs, _, hl, hm, hz, _, hcell, hwz⟩
  · simp [Value.cells] at hcs
    obtain ⟨rfl, rfl, rfl⟩ := hcs
    exact ⟨[], ⟨none, 0, rfl, Nat.le_refl _, by unfold maxLen; omega, fun i x hx => by simp at hx⟩, fun x hx => by cases hx⟩
  · simp [Value.cells] at hcs
    obtain ⟨rfl, rfl, rfl⟩ := hcs
    have hlz : len0 ≤ zs.length := by rw [hz]; split <;> omega
    have hlt : (zs.take len0).length = len0 := by simp; omega
    refine ⟨zs.take len0, ⟨some a, cap0, by rw [hlt], by omega, hm, fun i x hx => ?_⟩, fun x hx => hwz x (List.mem_of_mem_take hx)⟩
    have hi : i < len0 := by
      have := (List.getElem?_eq_some_iff.1 hx).1
      omega
    rw [List.getElem?_take_of_lt hi] at hx
    have hc := hcell i (by omega)
    have hx' : zs.getD i 0 = x := by simp [List.getD, hx]
    rw [hx'] at hc
    have hsp : a.spot = none := by
      have := World.cell?_spot (hcell 0 (by omega))
      simpa [Addr.add] using this
    obtain ⟨g, o, spot⟩ := a
    obtain rfl : spot = none := hsp
    rw [addr_add] at hc
    exact ⟨g, o, rfl, hc⟩

end Go.Proofs.Ytdccmdcgbembpaa

namespace Go.Proofs.Ytdccmdcgbembpaa
open Go.RowKit

/-- Numbers of 16 bits as cells. -/
def i16s (xs : List Int) : Array Value := (xs.map (Value.int .i16)).toArray
@[simp] theorem i16s_size (xs : List Int) : (i16s xs).size = xs.length := by simp [i16s]

theorem i16s_get (xs : List Int) (k : Nat) (h : k < xs.length) : (i16s xs)[k]? = some (.int .i16 (xs[k]?.getD 0)) := by
  simp [i16s, h]

theorem i16s_one (xs : List Int) : ∀ v ∈ i16s xs, v.oneCell' = true := by
  intro v hv
  simp only [i16s, List.mem_toArray, List.mem_map] at hv
  obtain ⟨x, _, rfl⟩ := hv
  rfl

theorem i16s_set (xs : List Int) (k : Nat) (n : Int) : (i16s xs).setIfInBounds k (.int .i16 n) = i16s (xs.set k n) := by
  apply Array.ext'
  simp [i16s, List.map_set]

theorem copy_step (xs : List Int) (k : Nat) (hx : xs.length = 24) (hk : k < 24) :
    (xs.take k ++ List.replicate (24 - k) 0).set k (xs[k]?.getD 0) = xs.take (k + 1) ++ List.replicate (24 - (k + 1)) 0 := by
  apply List.ext_getElem?
  intro j
  simp only [List.getElem?_set, List.getElem?_append, List.length_take, List.getElem?_take, List.getElem?_replicate, List.length_append, List.length_replicate]
  by_cases h1 : k = j
  · subst h1
    simp [show k < 24 from hk, hx, show min k 24 + (24 - k) = 24 by omega, show min (k+1) 24 = k + 1 by omega]
  · rw [if_neg h1]
    by_cases h2 : j < k
    · simp [hx, show j < min k 24 by omega, show j < min (k+1) 24 by omega, show j < k + 1 by omega, h2]
    · simp only [hx, show ¬ j < min k 24 by omega, if_false, show ¬ j < min (k+1) 24 by omega]
      congr 1
      simp
      omega

theorem cell_of_i16s {w : World} {g : Nat} {xs : List Int} {t : TypeId} {fr : Nat × Nat} (hg : w.heap[g]? = some (.cells (i16s xs) t fr)) (k : Nat) (h : k < xs.length) :
    w.cell? ⟨g, k, none⟩ = some (.int .i16 (xs[k]?.getD 0)) := by
  rw [cell_of_row w g k _ t fr hg, i16s_get xs k h]

theorem zeros24 : (#[.int .i16 0, .int .i16 0, .int .i16 0, .int .i16 0, .int .i16 0, .int .i16 0, .int .i16 0, .int .i16 0, .int .i16 0, .int .i16 0, .int .i16 0, .int .i16 0, .int .i16 0, .int .i16 0, .int .i16 0, .int .i16 0, .int .i16 0, .int .i16 0, .int .i16 0, .int .i16 0, .int .i16 0, .int .i16 0, .int .i16 0, .int .i16 0] : Array Value) = i16s (List.replicate 24 0) := rfl

theorem i16s_all (xs : List Int) (n : Nat) (h : xs.length = n) : (i16s xs).extract 0 (0 + n) = i16s xs := by
  have e : n = (i16s xs).size := by simp [h]
  rw [Nat.zero_add, e, Array.extract_size]

theorem laid_all (cs vs : Array Value) (h : cs.size = vs.size) : laid cs vs 0 = vs := by
  apply Array.ext'
  simp [laid]
  rw [← h]; simp

theorem heap_alloc (w : World) (o : Obj) (i : Nat) : (w.alloc o).heap[i]? = if i = w.heap.size then some o else w.heap[i]? := by
  show (w.heap.push o)[i]? = _
  exact Array.getElem?_push


/-- A sun as a value: 24 heights, 24 turns. -/
def sunC (hs ts : List Int) : Array Value := i16s (hs ++ ts)

theorem sunC_size (hs ts : List Int) (h : hs.length = 24) (t : ts.length = 24) : (sunC hs ts).size = 48 := by simp [sunC, h, t]

theorem sun_fits (hs ts : List Int) (h : hs.length = 24) (t : ts.length = 24) : 0 + 48 ≤ (sunC hs ts).size := by rw [sunC_size _ _ h t]; decide

theorem sun_all (hs ts : List Int) (h : hs.length = 24) (t : ts.length = 24) : (sunC hs ts).extract 0 (0 + 48) = sunC hs ts := i16s_all _ 48 (by rw [List.length_append, h, t])

theorem sunC_fst (hs ts : List Int) (h : hs.length = 24) : (sunC hs ts).extract 0 (0 + 24) = i16s hs := by
  apply Array.ext'
  simp [sunC, i16s, ← h]

theorem sunC_snd (hs ts : List Int) (h : hs.length = 24) (t : ts.length = 24) : (sunC hs ts).extract 24 (24 + 24) = i16s ts := by
  apply Array.ext'
  have e : 24 = (List.map (Value.int .i16) ts).length := by simp [t]
  simp only [sunC, i16s, List.map_append, List.extract_toArray, List.extract_eq_take_drop]
  rw [List.drop_append_of_le_length (by simp [h]), List.drop_of_length_le (by simp [h]), List.nil_append, List.take_of_length_le (by simp [t])]

theorem laid_fst (hs ts us : List Int) (h : hs.length = 24) (u : us.length = 24) : laid (sunC hs ts) (i16s us) 0 = sunC us ts := by
  apply Array.ext'
  simp [laid, sunC, i16s, u, h]

theorem laid_snd (hs ts us : List Int) (h : hs.length = 24) (t : ts.length = 24) (u : us.length = 24) : laid (sunC hs ts) (i16s us) 24 = sunC hs us := by
  apply Array.ext'
  simp [laid, sunC, i16s, u, h, t]

def zer : List Int := List.replicate 24 0

theorem zer_length : zer.length = 24 := rfl

theorem abs_code {P : Program} {c : Code} {Q : Exit → Act → World → Prop} {a : Act} {w : World} (R : World → Prop) (hw : R w) (h : ∀ W, R W → Code.wp P c Q a W) : Code.wp P c Q a w := h w hw

end Go.Proofs.Ytdccmdcgbembpaa

namespace Go.Proofs.Ytdccmdcgbembpaa
open Go Go.RowKit

set_option maxRecDepth 100000 in
theorem size_i16 (w : World) : (sizeOf 26).run Try.prog w = .ok 1 w := by kernel_rfl

set_option maxRecDepth 100000 in
theorem agg_i16 (w : World) : (isAgg 26).run Try.prog w = .ok false w := by kernel_rfl

theorem part_i16 (xs : List Int) (i : Nat) (h : i < xs.length) (w : World) : (part 26 (i16s xs) i).run Try.prog w = .ok (.int .i16 (xs[i]?.getD 0)) w := by
  unfold part
  rw [Sem.run_bind, agg_i16]
  simp only [Result.andThen_ok, Bool.false_eq_true, if_false, i16s_get xs i h]
  rfl



theorem eq_loop (d : Nat) (xs ys : List Int) (w : World) : ∀ (is : List Nat), (∀ i ∈ is, i < xs.length ∧ i < ys.length) →
    (forIn is ((none, ()) : Option Bool × Unit) (fun i _ => do
      if (!(← Op.equalIn (d + 1) 26 (← part 26 (i16s xs) (i * 1)) (← part 26 (i16s ys) (i * 1)))) = true then pure (ForInStep.done (some false, ()))
      else pure (ForInStep.yield (none, ())))).run Try.prog w = .ok (if is.all (fun i => xs[i]?.getD 0 == ys[i]?.getD 0) then (none, ()) else (some false, ())) w
  | [], _ => rfl
  | i :: is, h => by
    have hi := h i (by simp)
    have ih := eq_loop d xs ys w is (fun j hj => h j (by simp [hj]))
    rw [List.forIn_cons]
    simp only [Nat.mul_one] at ih ⊢
    simp only [Sem.run_bind, part_i16 xs i hi.1, part_i16 ys i hi.2, Result.andThen_ok, run_equalIn_int w d 26 .i16 .i16 _ _ Try.underlying26]
    cases hc : (xs[i]?.getD 0 == ys[i]?.getD 0)
    · simp [hc]
    · simp only [Bool.not_true, Bool.false_eq_true, if_false, Sem.run_pure, Result.andThen_ok, List.all_cons, hc, Bool.true_and]
      exact ih

theorem all_eq (xs ys : List Int) (n : Nat) (hx : xs.length = n) (hy : ys.length = n) : (List.range' 0 n).all (fun i => xs[i]?.getD 0 == ys[i]?.getD 0) = (xs == ys) := by
  rw [Bool.eq_iff_iff]
  simp only [List.all_eq_true, beq_iff_eq]
  constructor
  · intro h
    apply List.ext_getElem?
    intro i
    by_cases hi : i < n
    · have h1 := h i (by simp [List.mem_range']; omega)
      rw [List.getElem?_eq_getElem (by omega), List.getElem?_eq_getElem (by omega)] at h1 ⊢
      simpa using h1
    · rw [List.getElem?_eq_none (by omega), List.getElem?_eq_none (by omega)]
  · intro h i _
    rw [h]






theorem fold_and (a b : Bool) (w : World) : (if (!a) = true then Sem.run Try.prog (pure false) w else ((Sem.run Try.prog (pure b) w).andThen fun r w' => Sem.run Try.prog (if (!r) = true then pure false else pure true) w')) = .ok (a && b) w := by
  cases a <;> cases b <;> rfl

end Go.Proofs.Ytdccmdcgbembpaa

namespace Go.Proofs.Ytdccmdcgbembpaa
open Go.RowKit Go.Shelf

/-- An hour of a day. -/
abbrev Hr := { h : Int // 0 ≤ h ∧ h < 24 }

def hr (k : Nat) : Hr := ⟨(k % 24 : Nat), by omega⟩

theorem hr_val (k : Nat) (h : k < 24) : (hr k).1 = (k : Int) := by simp [hr, Nat.mod_eq_of_lt h]

def hrs (k : Nat) : List Hr := (List.range k).map hr

theorem hrs_succ (k : Nat) : hrs (k + 1) = hrs k ++ [hr k] := by simp [hrs, List.range_succ]
@[simp] theorem hrs_length (k : Nat) : (hrs k).length = k := by simp [hrs]

end Go.Proofs.Ytdccmdcgbembpaa

namespace Go.Proofs.Ytdccmdcgbembpaa
open Go.RowKit Go.Shelf

attribute [local go_sem] Oper.semAt_some

theorem heap_kept {W W' : World} {row : Option Nat} {b : Nat} {cs : Array Value} {t : TypeId} {fr : Nat × Nat} (h : W.heap[b]? = some (.cells cs t fr)) (hg : W.grownBy W' row)
    (hr : ∀ r, row = some r → ∃ o : Obj, W.heap[r]? = some o ∧ o.isCells = false) : W'.heap[b]? = some (.cells cs t fr) := by
  have hlt := (Array.getElem?_eq_some_iff.1 h).1
  rw [← h]
  refine hg.block b hlt fun e => ?_
  obtain ⟨o, ho, hc⟩ := hr b e.symm
  rw [h] at ho
  cases ho
  cases hc

/-- A number between two bounds. -/
def clampI (lo hi y : Int) : Int := if hi < (if lo > y then lo else y) then hi else (if lo > y then lo else y)

/-- The list whose first numbers are held. -/
def clampTo (lo hi : Int) (xs : List Int) (k : Nat) : List Int := (xs.take k).map (clampI lo hi) ++ xs.drop k

def Good (pre : List Hr) : Prop := pre = hrs pre.length

theorem good_snoc {pre : List Hr} {x : Hr} (h : Good (pre ++ [x])) (hl : pre.length < 24) : Good pre ∧ x.1 = (pre.length : Int) := by
  unfold Good at h
  rw [List.length_append, List.length_singleton, hrs_succ] at h
  have h1 := List.append_inj_left h (by simp)
  have h2 := List.append_inj_right h (by simp)
  refine ⟨h1, ?_⟩
  injection h2 with h3
  rw [h3, hr_val _ hl]

theorem good_all : Good (hrs 24) := by unfold Good; rw [hrs_length]

theorem clampTo_get (lo hi : Int) (xs : List Int) (k : Nat) (hx : xs.length = 24) (hk : k < 24) : (clampTo lo hi xs k)[k]?.getD 0 = xs[k]?.getD 0 := by
  unfold clampTo
  rw [List.getElem?_append_right (by simp; omega), List.getElem?_drop]
  congr 2
  simp; omega

theorem clampTo_step (lo hi : Int) (xs : List Int) (k : Nat) (hx : xs.length = 24) (hk : k < 24) :
    (clampTo lo hi xs k).set k (clampI lo hi (xs[k]?.getD 0)) = clampTo lo hi xs (k + 1) := by
  apply List.ext_getElem?
  intro j
  unfold clampTo
  simp only [List.getElem?_set, List.getElem?_append, List.length_map, List.length_take, List.getElem?_map, List.getElem?_take, List.getElem?_drop, List.length_append, List.length_drop, hx]
  by_cases h1 : k = j
  · subst h1
    rw [if_pos rfl, if_pos (by omega), if_pos (by omega), if_pos (by omega), List.getElem?_eq_getElem (by omega)]
    rfl
  · rw [if_neg h1]
    by_cases h2 : j < k
    · rw [if_pos (by omega), if_pos (by omega), if_pos (by omega), if_pos (by omega)]
    · rw [if_neg (by omega), if_neg (by omega)]
      congr 1
      omega

theorem clampTo_all (lo hi : Int) (xs : List Int) (hx : xs.length = 24) : clampTo lo hi xs 24 = xs.map (clampI lo hi) := by
  unfold clampTo
  rw [List.take_of_length_le (by omega), List.drop_of_length_le (by omega), List.append_nil]

theorem clampTo_none (lo hi : Int) (xs : List Int) : clampTo lo hi xs 0 = xs := rfl







theorem arrU : Try.prog.follows .mixedOrders = true := by kernel_rfl

end Go.Proofs.Ytdccmdcgbembpaa

namespace Go.Proofs.Ytdccmdcgbembpaa
open Go.RowKit

/-- A list of bytes, all of it below a block. -/
def BytesAt (V : World) (B : Nat) (v : Value) (n : Nat) : Prop :=
  ∃ a cap, v = .slice a n cap ∧ n ≤ cap ∧ cap ≤ maxLen ∧ ∀ i, i < n → ∃ (g o : Nat) (x : Int), a = some ⟨g, o, none⟩ ∧ g < B ∧ 0 ≤ x ∧ x ≤ 255 ∧ V.cell? ⟨g, o + i, none⟩ = some (.int .u8 x)

def srcC (v : Value) (at' sd : Int) : Array Value := #[v, .int .i64 at', .int .u64 sd]

/-- The source lies in block b; it has handed out at most m bytes. -/
def SrcAt (V : World) (b : Nat) (v : Value) (n m : Nat) : Prop :=
  BytesAt V b v n ∧ ∃ at' sd : Int, 0 ≤ at' ∧ at' ≤ (m : Int) ∧ 0 ≤ sd ∧ sd ≤ 18446744073709551615 ∧ V.heap[b]? = some (.cells (srcC v at' sd) 77 (0, 0))

theorem bytes_grown {V V' : World} {b n : Nat} {v : Value} (h : BytesAt V b v n) (hg : V.grownBy V' (some b)) : BytesAt V' b v n := by
  obtain ⟨a, cap, h1, h2, h3, h4⟩ := h
  refine ⟨a, cap, h1, h2, h3, fun i hi => ?_⟩
  obtain ⟨g, o, x, e, hgb, x0, x1, hc⟩ := h4 i hi
  have hlt := World.block_lt_of_cell? _ _ hc
  exact ⟨g, o, x, e, hgb, x0, x1, (World.cell?_of_block (hg.block g hlt (fun e => by injection e with e; omega))).trans hc⟩

theorem u64_bd (n : Int) : 0 ≤ IntKind.u64.wrap n ∧ IntKind.u64.wrap n ≤ 18446744073709551615 := by
  rw [IntKind.wrap_u64]
  omega

theorem and255 {s : Int} (h0 : 0 ≤ s) (h1 : s ≤ 18446744073709551615) : 0 ≤ wrap64 (bits BinOp.and IntKind.u64 (s / 1099511627776) 255) ∧ wrap64 (bits BinOp.and IntKind.u64 (s / 1099511627776) 255) ≤ 255 := by
  obtain ⟨a, ha⟩ := Int.eq_ofNat_of_zero_le (by omega : 0 ≤ s / 1099511627776)
  rw [ha]
  have hl : a < 18446744073709551616 := by omega
  have e : bits BinOp.and IntKind.u64 (a : Int) 255 = ((a &&& 255 : Nat) : Int) := u64_and_nat a 255 hl (by decide)
  have h2 : a &&& 255 ≤ 255 := Nat.and_le_right
  rw [e]
  unfold wrap64
  omega

theorem src_cells {V : World} {b : Nat} {v : Value} {x y : Int} {fr : Nat × Nat} (h : V.heap[b]? = some (.cells (srcC v x y) 77 fr)) : V.cell? ⟨b, 0, none⟩ = some v ∧ V.cell? ⟨b, 1, none⟩ = some (.int .i64 x) ∧ V.cell? ⟨b, 2, none⟩ = some (.int .u64 y) :=
  ⟨by rw [cell_of_row _ _ _ _ _ _ h]; rfl, by rw [cell_of_row _ _ _ _ _ _ h]; rfl, by rw [cell_of_row _ _ _ _ _ _ h]; rfl⟩

theorem grown_set {V : World} {b o : Nat} (x : Value) : V.grownBy (V.setCell ⟨b, o, none⟩ x) (some b) :=
  ⟨rfl, rfl, rfl, by simp, fun k _ hk => heap_setCell_other _ _ _ _ (fun e => hk (congrArg some e))⟩

theorem grown_t {A B C : World} {r : Option Nat} (h : A.grownBy B r) (k : B.grownBy C r) : A.grownBy C r :=
  ⟨k.os.trans h.os, k.tape.trans h.tape, k.output.trans h.output, Nat.le_trans h.size k.size, fun i hi hne => (k.block i (Nat.lt_of_lt_of_le hi h.size) hne).trans (h.block i hi hne)⟩

set_option maxRecDepth 100000 in
set_option maxHeartbeats 4000000 in
theorem next_any (b n m : Nat) (v : Value) (hm : m ≤ 1000000) (V : World) (h : SrcAt V b v n m) :
    Calls Try.prog 62 #[.pointer (some ⟨b, 0, none⟩)] V fun e V' => (∃ r : Int, e = .returned (.int .i64 r) ∧ 0 ≤ r ∧ r ≤ 255) ∧ SrcAt V' b v n (m + 1) ∧ V.grownBy V' (some b) := by
  obtain ⟨hB, at', sd, a0, a1, s0, s1, hrow⟩ := h
  have HB := Lib.hid hB
  obtain ⟨a, cap, ev, hc1, hc2, hall⟩ := id hB
  unfold maxLen at hc2
  have HR := Lib.hid hrow
  obtain ⟨k0, k1, k2⟩ := src_cells hrow
  rw [ev] at k0
  have f1 := frozen_of_row V b 1 _ _ hrow
  have hw1 : IntKind.i64.wrap (at' + 1) = at' + 1 := by rw [IntWalk.i64_in _ (by omega)]
  clear hrow hB
  by_cases hlt : at' < (n : Int)
  · obtain ⟨i, rfl⟩ := Int.eq_ofNat_of_zero_le a0
    obtain ⟨g, o, x, ea, hgb, x0, x1, hcx⟩ := hall i (by omega)
    subst ea
    have hwx : IntKind.i64.wrap x = x := by rw [IntWalk.i64_in _ (by omega)]
    have z3 : decide ((i : Int) < (n : Int)) = true := decide_eq_true hlt
    clear hall
    go_enter Try.func62, Try.ntmps62
    go_wp2
    go_quiet (fail)
    go_wp2
    go_quiet (fail)
    go_upto_region 5 with (fail)
    refine abs_code (fun W => W.heap[b]? = some (.cells (srcC v ((i : Int) + 1) sd) 77 (0, 0)) ∧ V.grownBy W (some b)) ⟨?_, ⟨rfl, rfl, rfl, by simp, fun k _ hk => heap_setCell_other _ _ _ _ (fun e => hk (congrArg some e))⟩⟩ ?_
    · show (V.setCell ⟨b, 1, none⟩ (.int .i64 ((i : Int) + 1))).heap[b]? = _
      rw [heap_setCell_same _ _ _ _ _ _ HR.out]
      rfl
    rintro W ⟨hr, hg⟩
    have HRW := Lib.hid hr
    obtain ⟨j0, j1, j2⟩ := src_cells hr
    have f2 := frozen_of_row W b 2 _ _ hr
    clear k0 k1 k2 f1 hr
    go_upto_region 6 with (fail)
    refine abs_code (fun X => ∃ sd' : Int, 0 ≤ sd' ∧ sd' ≤ 18446744073709551615 ∧ X.heap[b]? = some (.cells (srcC v ((i : Int) + 1) sd') 77 (0, 0)) ∧ V.grownBy X (some b)) ⟨_, (u64_bd _).1, (u64_bd _).2, by rw [heap_setCell_same _ _ _ _ _ _ HRW.out]; rfl, grown_t hg (grown_set _)⟩ ?_
    clear j0 j1 j2 f2 hg HRW HR
    rintro X ⟨sd', d0, d1, hr, hg⟩
    have HRX := Lib.hid hr
    obtain ⟨j0, j1, j2⟩ := src_cells hr
    rw [ev] at j0
    clear hr
    have z4 : (i : Int) + 1 ≤ (n : Int) := by omega
    have z5 : decide ((i : Int) + 1 ≤ (n : Int)) = true := decide_eq_true z4
    go_wp2
    go_quiet (fail)
    go_wp2
    go_ret
    exact ⟨⟨x, rfl, x0, x1⟩, ⟨bytes_grown HB.out ⟨hg.os, hg.tape, hg.output, hg.size, hg.block⟩, (i : Int) + 1, sd', by omega, by omega, d0, d1, HRX.out⟩, ⟨hg.os, hg.tape, hg.output, hg.size, hg.block⟩⟩
  · have z3 : decide (at' < (n : Int)) = false := decide_eq_false hlt
    clear hall
    go_enter Try.func62, Try.ntmps62
    go_wp2
    go_quiet (fail)
    go_upto_region 5 with (fail)
    refine abs_code (fun W => W.heap[b]? = some (.cells (srcC v (at' + 1) sd) 77 (0, 0)) ∧ V.grownBy W (some b)) ⟨?_, ⟨rfl, rfl, rfl, by simp, fun k _ hk => heap_setCell_other _ _ _ _ (fun e => hk (congrArg some e))⟩⟩ ?_
    · show (V.setCell ⟨b, 1, none⟩ (.int .i64 (at' + 1))).heap[b]? = _
      rw [heap_setCell_same _ _ _ _ _ _ HR.out]
      rfl
    rintro W ⟨hr, hg⟩
    have HRW := Lib.hid hr
    obtain ⟨j0, j1, j2⟩ := src_cells hr
    have f2 := frozen_of_row W b 2 _ _ hr
    clear k0 k1 k2 f1 hr
    go_upto_region 6 with (fail)
    refine abs_code (fun X => ∃ sd' : Int, 0 ≤ sd' ∧ sd' ≤ 18446744073709551615 ∧ X.heap[b]? = some (.cells (srcC v (at' + 1) sd') 77 (0, 0)) ∧ V.grownBy X (some b)) ⟨_, (u64_bd _).1, (u64_bd _).2, by rw [heap_setCell_same _ _ _ _ _ _ HRW.out]; rfl, grown_t hg (grown_set _)⟩ ?_
    clear j0 j1 j2 f2 hg HRW HR
    rintro X ⟨sd', d0, d1, hr, hg⟩
    have HRX := Lib.hid hr
    obtain ⟨j0, j1, j2⟩ := src_cells hr
    rw [ev] at j0
    clear hr
    have z4 : ¬ (at' + 1 ≤ (n : Int)) := by omega
    have z5 : decide (at' + 1 ≤ (n : Int)) = false := decide_eq_false z4
    go_wp2
    go_quiet (fail)
    go_wp2
    go_ret
    refine ⟨⟨_, rfl, ?_, ?_⟩, ⟨bytes_grown HB.out ⟨hg.os, hg.tape, hg.output, hg.size, hg.block⟩, at' + 1, sd', by omega, by omega, d0, d1, HRX.out⟩, ⟨hg.os, hg.tape, hg.output, hg.size, hg.block⟩⟩
    · exact (and255 d0 d1).1
    · exact (and255 d0 d1).2

theorem src_mono {V : World} {b n m k : Nat} {v : Value} (h : SrcAt V b v n m) (hk : m ≤ k) : SrcAt V b v n k := by
  obtain ⟨hB, x, y, h0, h1, h2, h3, h4⟩ := h
  exact ⟨hB, x, y, h0, by omega, h2, h3, h4⟩

theorem grown_r (V : World) (r : Option Nat) : V.grownBy V r := ⟨rfl, rfl, rfl, Nat.le_refl _, fun _ _ _ => rfl⟩

set_option maxRecDepth 100000 in
set_option maxHeartbeats 2000000 in
theorem pick_any (b n m : Nat) (v : Value) (hm : m ≤ 900000) (k : Int) (k0 : 1 ≤ k) (k1 : k ≤ 65536) (V : World) (h : SrcAt V b v n m) :
    Calls Try.prog 48 #[.pointer (some ⟨b, 0, none⟩), .int .i64 k] V fun e V' => (∃ r : Int, e = .returned (.int .i64 r) ∧ 0 ≤ r ∧ r < k) ∧ SrcAt V' b v n (m + 2) ∧ V.grownBy V' (some b) := by
  have HN1 := Lib.hid (fun V h => next_any b n m v (by omega) V h)
  have HN2 := Lib.hid (fun V h => next_any b n (m + 1) v (by omega) V h)
  have HS := Lib.hid h
  clear h
  by_cases hk : k ≤ 1
  · have e1 : k = 1 := by omega
    subst e1
    go_enter Try.func48, Try.ntmps48
    go_wp2
    go_ret
    exact ⟨⟨0, rfl, by decide, by decide⟩, src_mono HS.out (by omega), grown_r _ _⟩
  · have z1 : decide (k ≤ 1) = false := decide_eq_false hk
    have hne : k ≠ 0 := by omega
    have hr : ∀ x : Int, 0 ≤ x % k ∧ x % k < k := fun x => ⟨Int.emod_nonneg _ hne, Int.emod_lt_of_pos _ (by omega)⟩
    by_cases h2 : k > 200
    · have z2 : decide (k > 200) = true := decide_eq_true h2
      go_enter Try.func48, Try.ntmps48
      go_upto_region 4 with (go_at_call 62; refine (HN1.out _ HS.out).mono ?_; rintro e W1 ⟨⟨x, rfl, x0, x1⟩, hs1, hg1⟩)
      have HS1 := Lib.hid hs1
      have hw1 : IntKind.i64.wrap (x * 256) = x * 256 := by rw [IntWalk.i64_in _ (by omega)]
      go_upto_region 6 with (go_at_call 62; refine (HN2.out _ HS1.out).mono ?_; rintro e W2 ⟨⟨y, rfl, y0, y1⟩, hs2, hg2⟩)
      have hw2 : IntKind.i64.wrap (x * 256 + y) = x * 256 + y := by rw [IntWalk.i64_in _ (by omega)]
      go_wp2
      go_ret
      exact ⟨⟨_, rfl, hr _⟩, hs2, grown_t hg1 hg2⟩
    · have z2 : decide (k > 200) = false := decide_eq_false h2
      go_enter Try.func48, Try.ntmps48
      go_upto_region 4 with (go_at_call 62; refine (HN1.out _ HS.out).mono ?_; rintro e W1 ⟨⟨x, rfl, x0, x1⟩, hs1, hg1⟩)
      go_wp2
      go_ret
      exact ⟨⟨_, rfl, hr _⟩, src_mono hs1 (by omega), hg1⟩

end Go.Proofs.Ytdccmdcgbembpaa

namespace Go.Proofs.Ytdccmdcgbembpaa
open Go.ChangeShapes Go.WideShapes Go.ChangeAt Go.RowKit

theorem int_atH {W : World} {a : Option Addr} {n cap : Nat} {zs : List Int} (h : IntsAt W (.slice a n cap) zs) {k : Nat} {x : Int} (hx : zs[k]? = some x) :
    ∃ g o, a = some ⟨g, o, none⟩ ∧ W.cell? ⟨g, o + k, none⟩ = some (.int .i64 x) := by
  obtain ⟨a', cap', e, _, _, h4⟩ := h
  injection e with e1 e2 e3
  subst e1
  exact h4 k x hx

theorem contains_falseH {ys : List Int} {x : Int} (h : ∀ j, j < ys.length → ys[j]? ≠ some x) : ys.contains x = false := by
  rw [Bool.eq_false_iff]
  intro hc
  rw [List.contains_iff_mem] at hc
  obtain ⟨j, hj⟩ := List.mem_iff_getElem?.1 hc
  exact h j (List.getElem?_eq_some_iff.1 hj).1 hj

set_option maxRecDepth 100000 in
set_option maxHeartbeats 2000000 in
theorem l00Has_anyH (sv : Value) (ys : List Int) (x : Int) (r : Bool) (hr : ys.contains x = r) (w : World) (hz : IntsAt w sv ys) :
    Calls Try.prog 47 #[sv, .int .i64 x] w fun e w' => e = .returned (.bool r) ∧ w = w' := by
  have HZ := Lib.hid hz
  have HR := Lib.hid hr
  obtain ⟨a, cap, rfl, hl1, hl2, _⟩ := hz
  unfold maxLen at hl2
  generalize hn : ys.length = n at *
  have HN := Lib.hid hn
  clear hn hr
  go_enter Try.func47, Try.ntmps47
  go_wp2
  go_loopw [5] (fun i wr => ∃ k : Nat, k ≤ n ∧ i = .int .i64 k ∧ w = wr ∧ ∀ j, j < k → ys[j]? ≠ some x) (fun i _ => n - (intOf i).toNat)
  case atStart => exact ⟨0, Nat.zero_le _, rfl, rfl, fun j hj => absurd hj (Nat.not_lt_zero j)⟩
  case round =>
    obtain ⟨k, hk, rfl, rfl, hno⟩ := hrel
    have HNO := Lib.hid hno
    clear hno
    by_cases hlt : k < n
    · have hx : ys[k]? = some (ys[k]'(by rw [HN.out]; exact hlt)) := List.getElem?_eq_getElem _
      obtain ⟨g, o, rfl, hc⟩ := int_atH HZ.out hx
      generalize (ys[k]'(by rw [HN.out]; exact hlt)) = y at *
      have HX := Lib.hid hx
      have z1 : (k : Int) < (n : Int) := by omega
      have z2 : (0 : Int) ≤ (k : Int) := by omega
      clear hx
      by_cases e : y = x
      · subst e
        have hy : (y == y) = true := by simp
        have hr2 : r = true := HR.out.symm.trans (List.contains_iff_mem.2 (List.mem_of_getElem? HX.out))
        subst hr2
        go_wp2
        go_ret
        exact ⟨rfl, rfl⟩
      · have hy : (y == x) = false := by simpa using e
        have E := Lib.hid e
        clear e
        go_wp2
        go_roundw
        case rel =>
          refine ⟨k + 1, by omega, by go_num, by trivial, fun j hj => ?_⟩
          by_cases ej : j = k
          · rw [ej, HX.out]; intro h; exact E.out (Option.some.inj h)
          · exact HNO.out j (by omega)
        case measure => simp [intOf]; omega
    · obtain rfl : k = n := by omega
      have hr2 : r = false := HR.out.symm.trans (contains_falseH (fun j hj => HNO.out j (by rw [HN.out] at hj; exact hj)))
      subst hr2
      go_wp2
      go_ret
      exact ⟨rfl, rfl⟩

set_option maxRecDepth 100000 in
set_option maxHeartbeats 2000000 in
theorem A2Has_any (sv : Value) (ys : List Int) (x : Int) (w : World) (hz : IntsAt w sv ys) :
    Calls Try.prog 22 #[sv, .int .i64 x] w fun e w' => e = .returned (.bool (ys.contains x)) ∧ w = w' := by
  have HH := Lib.hid (l00Has_anyH sv ys x _ rfl w hz)
  generalize ys.contains x = r at *
  clear hz
  go_enter Try.func22, Try.ntmps22
  go_wp2_with (go_at_call 47; refine HH.out.mono ?_; rintro e w1 ⟨rfl, rfl⟩)
  go_ret
  exact ⟨rfl, rfl⟩

set_option maxRecDepth 100000 in
set_option maxHeartbeats 2000000 in
theorem l00Same_eq (v1 v2 : Value) (ys : List Int) (w : World) (h1 : IntsAt w v1 ys) (h2 : IntsAt w v2 ys) :
    Calls Try.prog 44 #[v1, v2] w fun e w' => e = .returned (.bool true) ∧ Below w.heap.size w w' := by
  have HA := Lib.hid h1
  have HB := Lib.hid h2
  obtain ⟨a, cap, rfl, hl1, hl2, _⟩ := h1
  obtain ⟨b, cap', rfl, hm1, hm2, _⟩ := h2
  unfold maxLen at hl2
  generalize hn : ys.length = n at *
  have HN := Lib.hid hn
  have zn : ((n : Int) != (n : Int)) = false := by simp
  clear hn
  go_enter Try.func44, Try.ntmps44
  go_wp2
  go_loopw [5] (fun i wr => ∃ k : Nat, k ≤ n ∧ i = .int .i64 (k : Int) ∧ Below w.heap.size w wr) (fun i _ => n - (intOf i).toNat)
  case atStart => exact ⟨0, Nat.zero_le _, rfl, Below.refl _ _⟩
  case round =>
    obtain ⟨k, hk, rfl, hb⟩ := hrel
    by_cases hlt : k < n
    · have hx : ys[k]? = some (ys[k]'(by rw [HN.out]; exact hlt)) := List.getElem?_eq_getElem _
      obtain ⟨g, o, rfl, hc⟩ := int_atH (ints_below HA.out hb) hx
      obtain ⟨g2, o2, rfl, hc2⟩ := int_atH (ints_below HB.out hb) hx
      generalize (ys[k]'(by rw [HN.out]; exact hlt)) = y at *
      have z1 : (k : Int) < (n : Int) := by omega
      have z2 : (0 : Int) ≤ (k : Int) := by omega
      have z3 : (y != y) = false := by simp
      clear hx
      go_wp2
      go_quiet (fail)
      go_wp2
      go_roundw
      case rel => exact ⟨k + 1, by omega, by go_num, ⟨hb.os, hb.tape, hb.output, hb.size, hb.block⟩⟩
      case measure => simp [intOf]; omega
    · obtain rfl : k = n := by omega
      go_wp2
      go_ret
      exact ⟨rfl, hb⟩

set_option maxRecDepth 100000 in
set_option maxHeartbeats 2000000 in
theorem A2Same_any (v1 v2 : Value) (ys : List Int) (w : World) (h1 : IntsAt w v1 ys) (h2 : IntsAt w v2 ys) :
    Calls Try.prog 17 #[v1, v2] w fun e w' => e = .returned (.bool true) ∧ Below w.heap.size w w' := by
  have HH := Lib.hid (l00Same_eq v1 v2 ys w h1 h2)
  clear h1 h2
  go_enter Try.func17, Try.ntmps17
  go_wp2_with (go_at_call 44; refine HH.out.mono ?_; rintro e w1 ⟨rfl, hb1⟩)
  go_ret
  exact ⟨rfl, hb1⟩

end Go.Proofs.Ytdccmdcgbembpaa

namespace Go.Proofs.Ytdccmdcgbembpaa
open Go.RowKit

set_option maxRecDepth 100000 in
set_option maxHeartbeats 2000000 in
theorem one_any (b n m : Nat) (v : Value) (hm : m ≤ 900000) (k : Int) (k0 : 1 ≤ k) (k1 : k ≤ 65536) (V : World) (h : SrcAt V b v n m) :
    Calls Try.prog 63 #[.pointer (some ⟨b, 0, none⟩), .int .i64 k] V fun e V' => (∃ r : Bool, e = .returned (.bool r)) ∧ SrcAt V' b v n (m + 2) ∧ V.grownBy V' (some b) := by
  have HP := Lib.hid (fun V h => pick_any b n m v hm k k0 k1 V h)
  have HS := Lib.hid h
  clear h
  go_enter Try.func63, Try.ntmps63
  go_wp2_with (go_at_call 48; refine (HP.out _ HS.out).mono ?_; rintro e W1 ⟨⟨x, rfl, x0, x1⟩, hs1, hg1⟩)
  go_ret
  exact ⟨⟨_, rfl⟩, hs1, hg1⟩

set_option maxRecDepth 100000 in
set_option maxHeartbeats 2000000 in
theorem l00From_any (n cap : Nat) (a : Option Addr) (V : World) (h : BytesAt V V.heap.size (.slice a n cap) n) :
    Calls Try.prog 24 #[.slice a n cap] V fun e V' => e = .returned (.pointer (some ⟨V.heap.size, 0, none⟩)) ∧ SrcAt V' V.heap.size (.slice a n cap) n 0 ∧ Below V.heap.size V V' := by
  have hbi : Try.prog.built 77 [(0, .slice a n cap)] = some (srcC (.slice a n cap) 0 0) := by kernel_rfl
  have HB := Lib.hid h
  clear h
  go_enter Try.func24, Try.ntmps24
  go_wp2
  go_ret
  have hbl : Below V.heap.size V (V.alloc (.cells (srcC (.slice a n cap) 0 0) 77)) := (Below.refl _ _).alloc (Nat.le_refl _) _
  exact ⟨rfl, ⟨bytes_grown HB.out ⟨hbl.os, hbl.tape, hbl.output, hbl.size, fun k hk _ => hbl.block k hk⟩, 0, 0, by decide, by decide, by decide, by decide, heap_alloc_new _ _⟩, hbl⟩

end Go.Proofs.Ytdccmdcgbembpaa

namespace Go.Proofs.Ytdccmdcgbembpaa
open Go.RowKit

theorem ofNat_rnd (k : Nat) : Rnd (k * 2 ^ 149) 1 (floatOfInt .f32 (k : Int)) := by
  have e : floatOfInt .f32 (k : Int) = Ieee.single.nearest false k 0 := by
    have h0 : decide ((k : Int) < 0) = false := decide_eq_false (by omega)
    show Ieee.single.write (.number (decide ((k : Int) < 0)) (k : Int).natAbs 0) = _
    rw [h0, Int.natAbs_natCast]
    rfl
  rw [e]
  exact nearest_rnd k 0 149 0 (by decide)

theorem ofNat_mono {j k : Nat} (h : j ≤ k) : floatOfInt .f32 (j : Int) ≤ floatOfInt .f32 (k : Int) :=
  rnd_mono (ofNat_rnd j) (ofNat_rnd k) (by decide) (by decide) (by rw [Nat.mul_one, Nat.mul_one]; exact Nat.mul_le_mul_right _ h)

/-- A part of whole numbers. -/
theorem tone_of {r R c : Nat} (hr : r ≤ R) (hR : floatOfInt .f32 (R : Int) < 2139095040) (hc0 : 0 < c) (hc : c < 2139095040) (h1 : fdiv (floatOfInt .f32 (R : Int)) c ≤ 1065353216) : floatBits .quo .f32 (floatOfInt .f32 (r : Int)) c = some (fdiv (floatOfInt .f32 (r : Int)) c) ∧ fdiv (floatOfInt .f32 (r : Int)) c ≤ 1065353216 := by
  have hm := ofNat_mono hr
  exact ⟨(div_rnd (by omega) hc hc0).1, Nat.le_trans (div_mono hR hc hc0 hm (Nat.le_refl _)) h1⟩

theorem tone16 {r : Nat} (hr : r ≤ 16) : floatBits .quo .f32 (floatOfInt .f32 (r : Int)) 1098907648 = some (fdiv (floatOfInt .f32 (r : Int)) 1098907648) ∧ fdiv (floatOfInt .f32 (r : Int)) 1098907648 ≤ 1065353216 := tone_of (R := 16) hr (by decide +kernel) (by decide) (by decide) (by decide +kernel)

theorem tone1000 {r : Nat} (hr : r ≤ 1000) : floatBits .quo .f32 (floatOfInt .f32 (r : Int)) 1148846080 = some (fdiv (floatOfInt .f32 (r : Int)) 1148846080) ∧ fdiv (floatOfInt .f32 (r : Int)) 1148846080 ≤ 1065353216 := tone_of (R := 1000) hr (by decide +kernel) (by decide) (by decide) (by decide +kernel)

theorem tone24 {r : Nat} (hr : r ≤ 16777216) : floatBits .quo .f32 (floatOfInt .f32 (r : Int)) 1266679808 = some (fdiv (floatOfInt .f32 (r : Int)) 1266679808) ∧ fdiv (floatOfInt .f32 (r : Int)) 1266679808 ≤ 1065353216 := tone_of (R := 16777216) hr (by decide +kernel) (by decide) (by decide) (by decide +kernel)

set_option maxRecDepth 100000 in
set_option maxHeartbeats 2000000 in
theorem l01Raw_any (b n m : Nat) (v : Value) (hm : m ≤ 800000) (V : World) (h : SrcAt V b v n m) :
    Calls Try.prog 50 #[.pointer (some ⟨b, 0, none⟩)] V fun e V' => (∃ r : Nat, e = .returned (.int .u32 (r : Int)) ∧ r < 4294967296) ∧ SrcAt V' b v n (m + 4) ∧ V.grownBy V' (some b) := by
  have HP1 := Lib.hid (fun V h => pick_any b n m v (by omega) 65536 (by decide) (by decide) V h)
  have HP2 := Lib.hid (fun V h => pick_any b n (m + 2) v (by omega) 65536 (by decide) (by decide) V h)
  have HS := Lib.hid h
  clear h
  go_enter Try.func50, Try.ntmps50
  go_upto_region 2 with (go_at_call 48; refine (HP1.out _ HS.out).mono ?_; rintro e W1 ⟨⟨x, rfl, x0, x1⟩, hs1, hg1⟩)
  have HS1 := Lib.hid hs1
  obtain ⟨p, rfl⟩ := Int.eq_ofNat_of_zero_le x0
  have hw1 : IntKind.u32.wrap (p : Int) = (p : Int) := by rw [IntWalk.u32_in _ (by omega)]
  have hw3 : IntKind.u32.wrap ((p : Int) * 65536) = (p : Int) * 65536 := by rw [IntWalk.u32_in _ (by omega)]
  have hw4 : IntKind.u32.wrap ((p : Int) * 2 ^ 16) = (p : Int) * 2 ^ 16 := by rw [IntWalk.u32_in _ (by omega)]
  go_wp2_with (go_at_call 48; refine (HP2.out _ HS1.out).mono ?_; rintro e W2 ⟨⟨y, rfl, y0, y1⟩, hs2, hg2⟩)
  go_ret
  obtain ⟨q, rfl⟩ := Int.eq_ofNat_of_zero_le y0
  have e : bits .or .u32 ((p : Int) * 65536) (q : Int) = ((p * 65536 ||| q : Nat) : Int) := by
    have := u32_or_nat (p * 65536) q (by omega) (by omega)
    rw [Int.natCast_mul] at this
    exact this
  refine ⟨⟨p * 65536 ||| q, ?_, Nat.or_lt_two_pow (n := 32) (by omega) (by omega)⟩, hs2, grown_t hg1 hg2⟩
  show Ending.returned (.int .u32 (bits .or .u32 ((p : Int) * 65536) (q : Int))) = _
  rw [e]

set_option maxRecDepth 100000 in
set_option maxHeartbeats 2000000 in
theorem l01Tone_any (b n m : Nat) (v : Value) (hm : m ≤ 700000) (V : World) (h : SrcAt V b v n m) :
    Calls Try.prog 25 #[.pointer (some ⟨b, 0, none⟩)] V fun e V' => (∃ z : Nat, e = .returned (.float .f32 z) ∧ z ≤ 1065353216) ∧ SrcAt V' b v n (m + 6) ∧ V.grownBy V' (some b) := by
  have HP1 := Lib.hid (fun V h => pick_any b n m v (by omega) 4 (by decide) (by decide) V h)
  have HP2 := Lib.hid (fun V h => pick_any b n (m + 2) v (by omega) 17 (by decide) (by decide) V h)
  have HP3 := Lib.hid (fun V h => pick_any b n (m + 2) v (by omega) 1001 (by decide) (by decide) V h)
  have HRW := Lib.hid (fun V h => l01Raw_any b n (m + 2) v (by omega) V h)
  have HS := Lib.hid h
  clear h
  go_enter Try.func25, Try.ntmps25
  go_upto_region 2 with (go_at_call 48; refine (HP1.out _ HS.out).mono ?_; rintro e W1 ⟨⟨x, rfl, x0, x1⟩, hs1, hg1⟩)
  have HS1 := Lib.hid hs1
  by_cases c0 : x = 0
  · subst c0
    go_wp2_with (go_at_call 48; refine (HP2.out _ HS1.out).mono ?_; rintro e W2 ⟨⟨y, rfl, y0, y1⟩, hs2, hg2⟩; obtain ⟨p, rfl⟩ := Int.eq_ofNat_of_zero_le y0; have hp : p ≤ 16 := (by omega); have rq : ∀ T w, (binOp .quo T (.float .f32 (floatOfInt .f32 (p : Int))) (.float .f32 1098907648)).run Try.prog w = .ok (.float .f32 (fdiv (floatOfInt .f32 (p : Int)) 1098907648)) w := (fun T w => run_float_arith w .quo T .f32 _ _ _ (tone16 hp).1))
    go_ret
    exact ⟨⟨_, rfl, (tone16 hp).2⟩, src_mono hs2 (by omega), grown_t hg1 hg2⟩
  · have z0 : (x == 0) = false := by simpa using c0
    by_cases c1 : x = 1
    · subst c1
      go_wp2_with (go_at_call 48; refine (HP3.out _ HS1.out).mono ?_; rintro e W2 ⟨⟨y, rfl, y0, y1⟩, hs2, hg2⟩; obtain ⟨p, rfl⟩ := Int.eq_ofNat_of_zero_le y0; have hp : p ≤ 1000 := (by omega); have rq : ∀ T w, (binOp .quo T (.float .f32 (floatOfInt .f32 (p : Int))) (.float .f32 1148846080)).run Try.prog w = .ok (.float .f32 (fdiv (floatOfInt .f32 (p : Int)) 1148846080)) w := (fun T w => run_float_arith w .quo T .f32 _ _ _ (tone1000 hp).1))
      go_ret
      exact ⟨⟨_, rfl, (tone1000 hp).2⟩, src_mono hs2 (by omega), grown_t hg1 hg2⟩
    · have z1 : (x == 1) = false := by simpa using c1
      go_wp2_with (go_at_call 50; refine (HRW.out _ HS1.out).mono ?_; rintro e W2 ⟨⟨r, rfl, hr⟩, hs2, hg2⟩; have h9 := (tone24 (r := r / 256) (by omega)).1; rw [Int.natCast_ediv] at h9; have rq : ∀ T w, (binOp .quo T (.float .f32 (floatOfInt .f32 ((r : Int) / 256))) (.float .f32 1266679808)).run Try.prog w = .ok (.float .f32 (fdiv (floatOfInt .f32 ((r : Int) / 256)) 1266679808)) w := (fun T w => run_float_arith w .quo T .f32 _ _ _ h9))
      go_ret
      refine ⟨⟨_, rfl, ?_⟩, src_mono hs2 (by omega), grown_t hg1 hg2⟩
      have h8 := (tone24 (r := r / 256) (by omega)).2
      rw [Int.natCast_ediv] at h8
      exact h8

end Go.Proofs.Ytdccmdcgbembpaa

namespace Go.Proofs.Ytdccmdcgbembpaa
open Go.RowKit

def Sized (z : Nat) : Prop := 1031798784 ≤ z ∧ z ≤ 1115684864

theorem sized16 {k : Nat} (h0 : 1 ≤ k) (h1 : k ≤ 64) : floatBits .quo .f32 (floatOfInt .f32 (k : Int)) 1098907648 = some (fdiv (floatOfInt .f32 (k : Int)) 1098907648) ∧ Sized (fdiv (floatOfInt .f32 (k : Int)) 1098907648) := by
  have hm := ofNat_mono h1
  have hl := ofNat_mono h0
  have hR : floatOfInt .f32 ((64 : Nat) : Int) < 2139095040 := by decide +kernel
  have e1 : fdiv (floatOfInt .f32 ((64 : Nat) : Int)) 1098907648 ≤ 1115684864 := by decide +kernel
  have e2 : 1031798784 ≤ fdiv (floatOfInt .f32 ((1 : Nat) : Int)) 1098907648 := by decide +kernel
  exact ⟨(div_rnd (by omega) (by decide) (by decide)).1, Nat.le_trans e2 (div_mono (by omega) (by decide) (by decide) hl (Nat.le_refl _)), Nat.le_trans (div_mono hR (by decide) (by decide) hm (Nat.le_refl _)) e1⟩

theorem sized21 {k : Nat} (h1 : k ≤ 16777216) : floatBits .quo .f32 (floatOfInt .f32 (k : Int)) 1241513984 = some (fdiv (floatOfInt .f32 (k : Int)) 1241513984) ∧ floatBits .add .f32 1031798784 (fdiv (floatOfInt .f32 (k : Int)) 1241513984) = some (fadd 1031798784 (fdiv (floatOfInt .f32 (k : Int)) 1241513984)) ∧ Sized (fadd 1031798784 (fdiv (floatOfInt .f32 (k : Int)) 1241513984)) := by
  have hm := ofNat_mono h1
  have hR : floatOfInt .f32 ((16777216 : Nat) : Int) < 2139095040 := by decide +kernel
  have e1 : fdiv (floatOfInt .f32 ((16777216 : Nat) : Int)) 1241513984 ≤ 1090519040 := by decide +kernel
  have e2 : fadd 1031798784 1090519040 ≤ 1115684864 := by decide +kernel
  have e3 : 1031798784 ≤ fadd 1031798784 0 := by decide +kernel
  have hq := Nat.le_trans (div_mono (y := 1241513984) (Y := 1241513984) hR (by decide) (by decide) hm (Nat.le_refl _)) e1
  exact ⟨(div_rnd (by omega) (by decide) (by decide)).1, (add_rnd (by decide) (by omega)).1, Nat.le_trans e3 (add_mono (by decide) (by omega) (Nat.le_refl _) (Nat.zero_le _)), Nat.le_trans (add_mono (by decide) (by decide) (Nat.le_refl _) hq) e2⟩

set_option maxRecDepth 100000 in
set_option maxHeartbeats 2000000 in
theorem l02Sized_any (b n m : Nat) (v : Value) (hm : m ≤ 700000) (V : World) (h : SrcAt V b v n m) :
    Calls Try.prog 49 #[.pointer (some ⟨b, 0, none⟩)] V fun e V' => (∃ z : Nat, e = .returned (.float .f32 z) ∧ Sized z) ∧ SrcAt V' b v n (m + 6) ∧ V.grownBy V' (some b) := by
  have HON := Lib.hid (fun V h => one_any b n m v (by omega) 3 (by decide) (by decide) V h)
  have HP2 := Lib.hid (fun V h => pick_any b n (m + 2) v (by omega) 64 (by decide) (by decide) V h)
  have HRW := Lib.hid (fun V h => l01Raw_any b n (m + 2) v (by omega) V h)
  have HS := Lib.hid h
  clear h
  go_enter Try.func49, Try.ntmps49
  go_upto_region 2 with (go_at_call 63; refine (HON.out _ HS.out).mono ?_; rintro e W1 ⟨⟨rb, rfl⟩, hs1, hg1⟩)
  all_goals have HS1 := Lib.hid hs1
  · go_wp2_with (go_at_call 48; refine (HP2.out _ HS1.out).mono ?_; rintro e W2 ⟨⟨y, rfl, y0, y1⟩, hs2, hg2⟩; obtain ⟨p, rfl⟩ := Int.eq_ofNat_of_zero_le y0; have hw : IntKind.i64.wrap (1 + (p : Int)) = 1 + (p : Int) := (by rw [IntWalk.i64_in _ (by omega)]); have hz := sized16 (k := 1 + p) (by omega) (by omega); rw [Int.natCast_add] at hz; have rq : ∀ T w, (binOp .quo T (.float .f32 (floatOfInt .f32 (1 + (p : Int)))) (.float .f32 1098907648)).run Try.prog w = .ok (.float .f32 (fdiv (floatOfInt .f32 (1 + (p : Int))) 1098907648)) w := (fun T w => run_float_arith w .quo T .f32 _ _ _ hz.1))
    go_ret
    exact ⟨⟨_, rfl, hz.2⟩, src_mono hs2 (by omega), grown_t hg1 hg2⟩
  · go_wp2_with (go_at_call 50; refine (HRW.out _ HS1.out).mono ?_; rintro e W2 ⟨⟨r, rfl, hr⟩, hs2, hg2⟩; have hz := sized21 (k := r / 256) (by omega); rw [Int.natCast_ediv] at hz; have rq : ∀ T w, (binOp .quo T (.float .f32 (floatOfInt .f32 ((r : Int) / 256))) (.float .f32 1241513984)).run Try.prog w = .ok (.float .f32 (fdiv (floatOfInt .f32 ((r : Int) / 256)) 1241513984)) w := (fun T w => run_float_arith w .quo T .f32 _ _ _ hz.1); have ra : ∀ T w, (binOp .add T (.float .f32 1031798784) (.float .f32 (fdiv (floatOfInt .f32 ((r : Int) / 256)) 1241513984))).run Try.prog w = .ok (.float .f32 (fadd 1031798784 (fdiv (floatOfInt .f32 ((r : Int) / 256)) 1241513984))) w := (fun T w => run_float_arith w .add T .f32 _ _ _ hz.2.1))
    go_ret
    exact ⟨⟨_, rfl, hz.2.2⟩, src_mono hs2 (by omega), grown_t hg1 hg2⟩

end Go.Proofs.Ytdccmdcgbembpaa

namespace Go.Proofs.Ytdccmdcgbembpaa
open Go.RowKit

def inB (n lo hi : Int) : Bool := decide (lo ≤ n) && decide (n ≤ hi)

theorem inB_true {n lo hi : Int} (h : inB n lo hi = true) : lo ≤ n ∧ n ≤ hi := by simpa [inB] using h

theorem inB_mk {n lo hi : Int} (h : lo ≤ n ∧ n ≤ hi) : inB n lo hi = true := by simpa [inB] using h

theorem inB_no {n lo hi : Int} (h : ¬ (lo ≤ n ∧ n ≤ hi)) : inB n lo hi = false := by
  cases e : inB n lo hi
  · rfl
  · exact absurd (inB_true e) h

set_option maxHeartbeats 400000 in
theorem l00In_any (n lo hi : Int) (w : World) :
    Calls Try.prog 58 #[.int .i64 n, .int .i64 lo, .int .i64 hi] w fun e w' => e = .returned (.bool (inB n lo hi)) ∧ w = w' := by
  unfold inB
  by_cases h1 : lo ≤ n
  · have h1' : decide (lo ≤ n) = true := decide_eq_true h1
    go_enter Try.func58, Try.ntmps58
    go_wp2
    go_ret
    rw [h1', Bool.true_and]
    exact ⟨rfl, rfl⟩
  · have h1' : decide (lo ≤ n) = false := decide_eq_false h1
    go_enter Try.func58, Try.ntmps58
    go_wp2
    go_ret
    exact ⟨by simp, rfl⟩

/-- A sun is valid. -/
def okB (hs ts : List Int) : Bool := hs.all (fun x => inB x (-64) 64) && ts.all (fun x => inB x 0 255)

theorem all_get {p : Int → Bool} {xs : List Int} (n : Nat) (hx : xs.length = n) : xs.all p = true ↔ ∀ k, k < n → p (xs[k]?.getD 0) = true := by
  rw [List.all_eq_true]
  constructor
  · intro h k hk
    rw [List.getElem?_eq_getElem (by omega)]
    exact h _ (List.getElem_mem _)
  · intro h x hm
    obtain ⟨k, hk, rfl⟩ := List.mem_iff_getElem.1 hm
    have := h k (by omega)
    rwa [List.getElem?_eq_getElem hk] at this

theorem okB_iff (hs ts : List Int) (hh : hs.length = 24) (ht : ts.length = 24) : okB hs ts = true ↔ ∀ k, k < 24 → inB (hs[k]?.getD 0) (-64) 64 = true ∧ inB (ts[k]?.getD 0) 0 255 = true := by
  unfold okB
  rw [Bool.and_eq_true, all_get 24 hh, all_get 24 ht]
  constructor
  · intro h k hk; exact ⟨h.1 k hk, h.2 k hk⟩
  · intro h; exact ⟨fun k hk => (h k hk).1, fun k hk => (h k hk).2⟩

theorem okB_false {hs ts : List Int} (hh : hs.length = 24) (ht : ts.length = 24) (k : Nat) (hk : k < 24) (h : inB (hs[k]?.getD 0) (-64) 64 = false ∨ inB (ts[k]?.getD 0) 0 255 = false) : okB hs ts = false := by
  cases e : okB hs ts
  · rfl
  · obtain ⟨h1, h2⟩ := (okB_iff hs ts hh ht).1 e k hk
    rcases h with h | h
    · rw [h] at h1; cases h1
    · rw [h] at h2; cases h2

theorem cell_sun_h {w : World} {b : Nat} {hs ts : List Int} {t : TypeId} {fr : Nat × Nat} (hg : w.heap[b]? = some (.cells (sunC hs ts) t fr)) (hh : hs.length = 24) (k : Nat) (hk : k < 24) :
    w.cell? ⟨b, k, none⟩ = some (.int .i16 (hs[k]?.getD 0)) := by
  rw [cell_of_row w b k _ t fr hg, sunC, i16s_get _ _ (by simp; omega), List.getElem?_append_left (by omega)]

theorem cell_sun_t {w : World} {b : Nat} {hs ts : List Int} {t : TypeId} {fr : Nat × Nat} (hg : w.heap[b]? = some (.cells (sunC hs ts) t fr)) (hh : hs.length = 24) (ht : ts.length = 24) (k : Nat) (hk : k < 24) :
    w.cell? ⟨b, 24 + k, none⟩ = some (.int .i16 (ts[k]?.getD 0)) := by
  rw [cell_of_row w b (24 + k) _ t fr hg, sunC, i16s_get _ _ (by simp; omega), List.getElem?_append_right (by omega)]
  congr 4; omega

theorem rb_get {xs : List Int} (h : ∀ x ∈ xs, -32768 ≤ x ∧ x ≤ 32767) (k : Nat) : -32768 ≤ xs[k]?.getD 0 ∧ xs[k]?.getD 0 ≤ 32767 := by
  by_cases hk : k < xs.length
  · have e : xs[k]? = some xs[k] := List.getElem?_eq_getElem hk
    rw [e]; exact h _ (List.getElem_mem _)
  · rw [List.getElem?_eq_none (by omega)]; decide

end Go.Proofs.Ytdccmdcgbembpaa

namespace Go.Proofs.Ytdccmdcgbembpaa
open Go.RowKit

theorem yields_part {P : Program} {ops : Array Oper} {S : World → Prop} {o : Oper} {a : Act} (hw : Region.wanted o (yielded ops a.tmps) = true) (ty : TypeId) (x : Operand) (ho : o.op = .load ty x)
    (g off n : Nat) (hx : a.eval x = .pointer (some ⟨g, off, none⟩)) (t : TypeId) (cs : Array Value) (fr : Nat × Nat) (d : TypeDesc) (hg : ∀ w, S w → w.heap[g]? = some (.cells cs t fr))
    (hu : P.underlying ty = some d) (hd : (match d with | .struct _ | .array _ _ => true | _ => false) = true) (hi : (P.info? ty).map (·.size) = some n) (hn : off + n ≤ cs.size)
    (vs : Array Value) (hvs : cs.extract off (off + n) = vs) : YieldsIf P ops S o (.agg vs) a :=
  .inl ⟨hw, fun w hw' => by
    subst hvs
    unfold execOp
    simp only [ho, hx, Instr.loadAt, Instr.sureAddr, Sem.run_bind, Sem.run_pure, Result.andThen_ok, run_loadVar_part w g off n t ty cs fr d (hg w hw') hu hd hi hn]⟩

theorem take_at {P : Program} {ops : Array Oper} {Q : Exit → Act → World → Prop} {md : Region.Mode} {S : World → Prop} {i d : Nat} {oi : Oper} {v : Value} {fuel : Nat} {listed : Array Bool} {a : Act} {w : World} (hi : ops[i]? = some oi) (hd : oi.dst = some d)
    (hs : Region.noSelect ops = true) (hf : Region.free md ops listed i = true) (hr : (Region.ready md ops listed).contains i = true)
    (hQ : ∀ c a w, Q (.panic c) (a.put oi.dst v) w → Q (.panic c) a w) (hy : YieldsIf P ops S oi v a) (hS : S w)
    (h : wpAnyH P md ops Q S fuel (listed.setIfInBounds i true) { tmps := a.tmps.setIfInBounds d v, defers := a.defers } w) : wpAnyH P md ops Q S (fuel + 1) listed a w :=
  wpAnyH_take hi hs hf hr hQ hy hS (by rw [hd]; exact h)

theorem clamp_eq (lo hi : Int) (h : lo ≤ hi) (y : Int) : clampI lo hi y = y ↔ inB y lo hi = true := by
  unfold clampI
  constructor
  · intro e
    apply inB_mk
    split at e <;> split at e <;> omega
  · intro e
    have := inB_true e
    have e1 : ¬ lo > y := by omega
    rw [if_neg e1, if_neg (by omega)]

theorem map_clamp (lo hi : Int) (h : lo ≤ hi) (xs : List Int) : (xs.map (clampI lo hi) == xs) = xs.all (fun x => inB x lo hi) := by
  rw [Bool.eq_iff_iff, beq_iff_eq, List.all_eq_true]
  induction xs with
  | nil => simp
  | cons x xs ih =>
    simp only [List.map_cons, List.cons.injEq, List.mem_cons, forall_eq_or_imp]
    rw [ih, clamp_eq lo hi h]

end Go.Proofs.Ytdccmdcgbembpaa

namespace Go.Proofs.Ytdccmdcgbembpaa
open Go.ChangeShapes Go.WideShapes Go.ChangeAt Go.RowKit

set_option maxRecDepth 100000 in
theorem cells_i16 : Try.prog.cellsOf 26 = 1 := by kernel_rfl

def rd16 : Value → Int | .int _ n => n | _ => 0

end Go.Proofs.Ytdccmdcgbembpaa

namespace Go.Proofs.Ytdccmdcgbembpaa
open Go.ChangeShapes Go.WideShapes Go.ChangeAt Go.RowKit

end Go.Proofs.Ytdccmdcgbembpaa

namespace Go.Proofs.Ytdccmdcgbembpaa
open Go.RowKit

def inH (n : Int) : Bool := inB n 0 23

def inF (n : Int) : Bool := inB n 0 255

/-- The code of a sun, and of what is asked of numbers. -/
def codeB (ok fine : Bool) : Int := if ok then (if fine then 0 else 2) else 1

/-- The height at an hour; the turn at an hour. -/
def atH (xs : List Int) (hour : Int) : Int := xs[hour.toNat]?.getD 0

end Go.Proofs.Ytdccmdcgbembpaa

namespace Go.Proofs.Ytdccmdcgbembpaa
open Go.ChangeShapes Go.WideShapes Go.ChangeAt Go.RowKit









theorem inH_bd {n : Int} (h : inH n = true) : 0 ≤ n ∧ n < 24 := by
  have := inB_true h; omega

theorem codeB_ne {ok fine : Bool} (h : ¬ (ok = true ∧ fine = true)) : codeB ok fine ≠ 0 := by
  cases ok <;> cases fine <;> simp_all [codeB]

/-- What is asked of a sun and of other arguments is all right, or the code tells what is not. -/
def upV (hs ts : List Int) (hour : Int) : Bool := okB hs ts && inH hour && decide (0 < atH hs hour)

end Go.Proofs.Ytdccmdcgbembpaa

namespace Go.Proofs.Ytdccmdcgbembpaa
open Go.ChangeShapes Go.WideShapes Go.ChangeAt Go.RowKit

theorem okB_h {hs ts : List Int} (hh : hs.length = 24) (ht : ts.length = 24) (h : okB hs ts = true) (hour : Int) (h0 : 0 ≤ hour) (h1 : hour < 24) : -64 ≤ atH hs hour ∧ atH hs hour ≤ 64 :=
  inB_true ((okB_iff hs ts hh ht).1 h hour.toNat (by omega)).1

theorem okB_t {hs ts : List Int} (hh : hs.length = 24) (ht : ts.length = 24) (h : okB hs ts = true) (hour : Int) (h0 : 0 ≤ hour) (h1 : hour < 24) : 0 ≤ atH ts hour ∧ atH ts hour ≤ 255 :=
  inB_true ((okB_iff hs ts hh ht).1 h hour.toNat (by omega)).2

end Go.Proofs.Ytdccmdcgbembpaa

namespace Go.Proofs.Ytdccmdcgbembpaa
open Go.ChangeShapes Go.WideShapes Go.ChangeAt Go.RowKit

/-- The light of an hour on a window. -/
def fallOf (hs ts : List Int) (hour facing : Int) : Nat := fallB (atH hs hour) (atH ts hour - facing)

theorem i64_small (n : Int) (h0 : -100000 ≤ n) (h1 : n ≤ 100000) : IntKind.i64.wrap n = n := by
  simp [IntKind.wrap, IntKind.signed, IntKind.bits]
  omega

theorem litB_gt {l : Nat} (h : FloatKind.f32.format.order l 0 = some .gt) : litB l = l := if_pos h

theorem litB_no {l : Nat} {o : Ordering} (h : FloatKind.f32.format.order l 0 = some o) (ho : o ≠ .gt) : litB l = 0 := by
  unfold litB
  rw [h, if_neg (fun e => ho (by injection e))]

end Go.Proofs.Ytdccmdcgbembpaa

namespace Go.Proofs.Ytdccmdcgbembpaa
open Go.ChangeShapes Go.WideShapes Go.ChangeAt Go.RowKit





theorem inF_bd {n : Int} (h : inF n = true) : 0 ≤ n ∧ n ≤ 255 := inB_true h

end Go.Proofs.Ytdccmdcgbembpaa

namespace Go.Proofs.Ytdccmdcgbembpaa
open Go

/-- No NaN, and no minus sign. -/
def pos32 (x : Nat) : Bool := match Ieee.single.read x with | .number s _ _ => !s | .infinity s => !s | .nan _ _ => false

theorem pos_fin {x : Nat} (h : pos32 x = true) : fin32 x = true := by
  unfold pos32 at h
  unfold fin32
  cases hr : Ieee.single.read x with
  | number s m e => rfl
  | infinity s => rfl
  | nan s f => rw [hr] at h; cases h

theorem pos_word (k : Nat) (h : k ≤ Ieee.single.infRung) : pos32 (Ieee.single.word false k) = true := by
  have hi : Ieee.single.infRung = 2139095040 := by decide
  have hw : Ieee.single.signWeight = 2147483648 := by decide
  rw [hi] at h
  unfold pos32 Ieee.Format.read Ieee.Format.word
  simp only [hi, hw, Bool.false_eq_true, if_false]
  have hk : k % 2147483648 = k := Nat.mod_eq_of_lt (by omega)
  have hd : k / 2147483648 = 0 := Nat.div_eq_of_lt (by omega)
  rw [hk, hd]
  by_cases c1 : k < Ieee.single.binade
  · rw [if_pos c1]; rfl
  · rw [if_neg c1]
    by_cases c2 : k < 2139095040
    · rw [if_pos c2]; rfl
    · rw [if_neg c2, if_pos (by omega)]; rfl

theorem pos_nearest (m : Nat) (e : Int) : pos32 (Ieee.single.nearest false m e) = true := by
  unfold Ieee.Format.nearest
  split
  · exact pos_word 0 (Nat.zero_le _)
  · exact pos_word _ (Nat.min_le_right _ _)

theorem signed_nonneg (m u : Nat) : 0 ≤ Ieee.signed false m u := by
  unfold Ieee.signed
  rw [if_neg (by decide)]
  exact Int.natCast_nonneg _

/-- A sum of such numbers is made without a draw, and is one again. -/
theorem add_ok {x y : Nat} (hx : pos32 x = true) (hy : pos32 y = true) : floatBits .add .f32 x y = some (fadd x y) ∧ pos32 (fadd x y) = true := by
  suffices h : ∃ d, (Ieee.single.read x).sum (Ieee.single.read y) = some d ∧ pos32 (Ieee.single.write d) = true by
    obtain ⟨d, h1, h2⟩ := h
    have h3 : Ieee.single.add x y = some (Ieee.single.write d) := by unfold Ieee.Format.add; rw [h1]; rfl
    have e1 : fadd x y = Ieee.single.write d := by unfold fadd; rw [h3]; rfl
    rw [e1]; exact ⟨h3, h2⟩
  unfold pos32 at hx hy
  cases hr : Ieee.single.read x with
  | nan s f => rw [hr] at hx; cases hx
  | infinity s =>
    rw [hr] at hx
    cases s
    · cases hq : Ieee.single.read y with
      | nan t f => rw [hq] at hy; cases hy
      | infinity t =>
        rw [hq] at hy
        cases t
        · exact ⟨.infinity false, rfl, by decide⟩
        · cases hy
      | number t n j => exact ⟨.infinity false, rfl, by decide⟩
    · cases hx
  | number s m e =>
    rw [hr] at hx
    cases s
    · cases hq : Ieee.single.read y with
      | nan t f => rw [hq] at hy; cases hy
      | infinity t =>
        rw [hq] at hy
        cases t
        · exact ⟨.infinity false, rfl, by decide⟩
        · cases hy
      | number t n j =>
        rw [hq] at hy
        cases t
        · refine ⟨_, rfl, ?_⟩
          have h1 := signed_nonneg m (e - min e j).toNat
          have h2 := signed_nonneg n (j - min e j).toNat
          have h3 : 0 ≤ Ieee.signed false m (e - min e j).toNat + Ieee.signed false n (j - min e j).toNat := Int.add_nonneg h1 h2
          generalize Ieee.signed false m (e - min e j).toNat + Ieee.signed false n (j - min e j).toNat = tot at h3 ⊢
          have hneg : (if tot = 0 then (false && false) else decide (tot < 0)) = false := by
            split
            · rfl
            · exact decide_eq_false (by omega)
          rw [hneg]
          exact pos_nearest _ _
        · cases hy
    · cases hx

/-- The sum of the first numbers of a row, beginning with 0. -/
def sumTo (f : Nat → Nat) (k : Nat) : Nat := (List.range k).foldl (fun s h => fadd s (f h)) 0
theorem sumTo_succ (f : Nat → Nat) (k : Nat) : sumTo f (k + 1) = fadd (sumTo f k) (f k) := by
  simp [sumTo, List.range_succ]
theorem sumTo_pos (f : Nat → Nat) (n : Nat) (hf : ∀ k, k < n → pos32 (f k) = true) : ∀ k, k ≤ n → pos32 (sumTo f k) = true
  | 0, _ => by show pos32 0 = true; decide
  | k + 1, h => by rw [sumTo_succ]; exact (add_ok (sumTo_pos f n hf k (by omega)) (hf k (by omega))).2

theorem sineB_pos_nat : ∀ n : Nat, n < 65 → pos32 (sineB (n : Int)) = true := by decide +kernel
theorem groundB_pos (x : Int) (h : x ≤ 64) : pos32 (groundB x) = true := by
  unfold groundB
  split
  · rename_i h0
    obtain ⟨n, rfl⟩ := Int.eq_ofNat_of_zero_le (by omega : 0 ≤ x)
    exact sineB_pos_nat n (by omega)
  · decide

theorem litB_pos (l : Nat) : pos32 (litB l) = true := by
  unfold litB
  split
  · rename_i h
    have h' : (Ieee.single.read l).order (Ieee.single.read 0) = some .gt := h
    have hz : Ieee.single.read 0 = .number false 0 (-149) := by decide
    rw [hz] at h'
    unfold pos32
    cases hr : Ieee.single.read l with
    | nan s f => rw [hr] at h'; cases h'
    | infinity s => rw [hr] at h'; cases s <;> first | rfl | (simp [Ieee.Datum.order] at h')
    | number s m e =>
      rw [hr] at h'
      cases s
      · rfl
      · exfalso
        simp only [Ieee.Datum.order, Option.some.injEq] at h'
        have h1 : Ieee.signed true m (e - min e (-149)).toNat ≤ 0 := by
          unfold Ieee.signed
          rw [if_pos rfl]
          exact Int.neg_nonpos_of_nonneg (Int.natCast_nonneg _)
        have h2 : Ieee.signed false 0 ((-149 : Int) - min e (-149)).toNat = 0 := by simp [Ieee.signed]
        rw [h2] at h'
        have := Int.compare_eq_gt.1 h'
        omega
  · decide
theorem fallB_pos (x d : Int) : pos32 (fallB x d) = true := by
  unfold fallB
  split
  · exact litB_pos _
  · decide

end Go.Proofs.Ytdccmdcgbembpaa

namespace Go.Proofs.Ytdccmdcgbembpaa
open Go.RowKit Go.Shelf

theorem run_store_float (P : Program) (w : World) (a : Addr) (k : FloatKind) (b : Nat) (m : Mode) : (store a (.float k b) m).run P w = stored P w a (.float k b) m := run_store P w a _ m rfl

attribute [local go_sem] Oper.semAt_some run_store_float

/-- What a sum over the hours keeps: the sun, the sum so far, whatever lay before. -/


theorem keeps_of_below {W W1 : World} (hb : Below W.heap.size W W1) : KeepsOthers W W1 := by
  exact ⟨hb.size, fun b o ho _ => (hb.block b (Array.getElem?_eq_some_iff.1 ho).1).trans ho⟩

end Go.Proofs.Ytdccmdcgbembpaa

namespace Go.Proofs.Ytdccmdcgbembpaa
open Go.RowKit

attribute [local go_sem] run_store_float

theorem src_kept {V V' : World} {b n m : Nat} {v : Value} {row : Option Nat} (h : SrcAt V b v n m) (hg : V.grownBy V' row) (hr : ∀ g, row = some g → b < g) : SrcAt V' b v n m := by
  obtain ⟨hB, x, y, h0, h1, h2, h3, h4⟩ := h
  obtain ⟨a, cap, e1, e2, e3, e4⟩ := hB
  refine ⟨⟨a, cap, e1, e2, e3, fun i hi => ?_⟩, x, y, h0, h1, h2, h3, (hg.block b (row_lt h4) (fun e => by have := hr b e.symm; omega)).trans h4⟩
  obtain ⟨g, o, z, e, hgb, z0, z1, hc⟩ := e4 i hi
  have hlt := World.block_lt_of_cell? _ _ hc
  exact ⟨g, o, z, e, hgb, z0, z1, (World.cell?_of_block (hg.block g hlt (fun e => by have := hr g e.symm; omega))).trans hc⟩

theorem row_grown {V V' : World} {b g : Nat} {o : Obj} (h : V.heap[g]? = some o) (hg : V.grownBy V' (some b)) (hne : g ≠ b) : V'.heap[g]? = some o :=
  (hg.block g (row_lt h) (fun e => hne (by injection e))).trans h

theorem grown_wide {A B : World} {r : Option Nat} (h : A.grownBy B none) : A.grownBy B r := ⟨h.os, h.tape, h.output, h.size, fun k hk _ => h.block k hk (by simp)⟩

theorem grown_new {V W W' : World} {b : Nat} {r : Nat} (h : V.grownBy W (some b)) (k : W.grownBy W' (some r)) (hr : V.heap.size ≤ r) : V.grownBy W' (some b) :=
  ⟨k.os.trans h.os, k.tape.trans h.tape, k.output.trans h.output, Nat.le_trans h.size k.size, fun i hi hne => (k.block i (Nat.lt_of_lt_of_le hi h.size) (fun e => by injection e with e; omega)).trans (h.block i hi hne)⟩

theorem alloc_row {W : World} (o : Obj) (cs : Array Value) : W.grownBy ((W.alloc o).setRow W.heap.size cs) none := by
  have h : Below W.heap.size W ((W.alloc o).setRow W.heap.size cs) := below_setRow ((Below.refl _ _).alloc (Nat.le_refl _) _) (Nat.le_refl _) _
  exact ⟨h.os, h.tape, h.output, h.size, fun k hk _ => h.block k hk⟩

set_option maxRecDepth 100000 in
set_option maxHeartbeats 2000000 in
theorem l02Drawn_any (b n m : Nat) (v : Value) (hm : m ≤ 600000) (V : World) (h : SrcAt V b v n m) :
    Calls Try.prog 23 #[.pointer (some ⟨b, 0, none⟩)] V fun e V' => (∃ (k : Int) (wd gp : Nat) (t : Int) (sh : Nat), e = .returned (.agg (blindC k wd gp t sh)) ∧ 1 ≤ k ∧ k ≤ 60 ∧ Sized wd ∧ Sized gp ∧ -64 ≤ t ∧ t ≤ 64 ∧ sh ≤ 1065353216) ∧ SrcAt V' b v n (m + 22) ∧ V.grownBy V' (some b) := by
  have HP1 := Lib.hid (fun V h => pick_any b n m v (by omega) 60 (by decide) (by decide) V h)
  have HZ1 := Lib.hid (fun V h => l02Sized_any b n (m + 2) v (by omega) V h)
  have HZ2 := Lib.hid (fun V h => l02Sized_any b n (m + 8) v (by omega) V h)
  have HP2 := Lib.hid (fun V h => pick_any b n (m + 14) v (by omega) 129 (by decide) (by decide) V h)
  have HT := Lib.hid (fun V h => l01Tone_any b n (m + 16) v (by omega) V h)
  have hbl : b < V.heap.size := by obtain ⟨_, _, _, _, _, _, _, hr⟩ := h; exact row_lt hr
  have HS0 := Lib.hid h
  clear h
  go_enter Try.func23, Try.ntmps23
  go_upto_region 1 with (fail)
  have hga : V.grownBy (V.alloc (.cells (blindC 0 0 0 0 0) 28)) none := World.grownBy_alloc V _ none
  refine abs_code (fun W => W.heap[V.heap.size]? = some (.cells (blindC 0 0 0 0 0) 28 (0, 0)) ∧ SrcAt W b v n m ∧ V.grownBy W (some b)) ⟨heap_alloc_new _ _, src_kept HS0.out hga (fun g e => by cases e), grown_wide hga⟩ ?_
  rintro W ⟨h0, hs, hg⟩
  have H0 := Lib.hid h0
  have HS := Lib.hid hs
  have HG := Lib.hid hg
  have hne0 : V.heap.size ≠ b := by omega
  generalize hg0 : V.heap.size = g0 at *
  clear h0 hs hg HS0 hga
  go_upto_region 2 with (first | (go_at_call 48; refine (HP1.out _ HS.out).mono ?_; rintro e W1 ⟨⟨y, rfl, y0, y1⟩, hs1, hg1⟩; replace HS := Lib.hid hs1; replace HG := Lib.hid (grown_t HG.out hg1); replace H0 := Lib.hid (row_grown H0.out hg1 hne0); clear hs1 hg1; obtain ⟨p, rfl⟩ := Int.eq_ofNat_of_zero_le y0; have hw : IntKind.i64.wrap (1 + (p : Int)) = 1 + (p : Int) := (by rw [IntWalk.i64_in _ (by omega)]); have hw8 : IntKind.i8.wrap (1 + (p : Int)) = 1 + (p : Int) := (by rw [IntWalk.i8_in _ (by omega)])) | (go_at_call 49; refine (HZ1.out _ HS.out).mono ?_; rintro e W2 ⟨⟨z, rfl, hz⟩, hs1, hg1⟩; replace HS := Lib.hid hs1; replace HG := Lib.hid (grown_t HG.out hg1); replace H0 := Lib.hid (row_grown H0.out hg1 hne0); clear hs1 hg1; have HBI : Hid (Try.prog.built 28 [(0, .int .i8 (1 + (p : Int))), (1, .float .f32 z)] = some (blindC (1 + (p : Int)) z 0 0 0)) := (by unfold Hid; kernel_rfl)) | (refine wpList_buildL rfl 28 _ rfl _ rfl [(0, .int .i8 (1 + (p : Int))), (1, .float .f32 z)] rfl (blindC (1 + (p : Int)) z 0 0 0) HBI.out ?_) | (refine wpList_store_part rfl 28 _ _ rfl _ 0 (blindC (1 + (p : Int)) z 0 0 0) rfl rfl 28 _ (heap_alloc_new _ _) info_blind (Nat.le_refl _) (by intro u hu; simp only [blindC, List.mem_toArray, List.mem_cons, List.not_mem_nil, or_false] at hu; rcases hu with rfl | rfl | rfl | rfl | rfl <;> rfl) ?_; rw [laid_all _ _ (by rfl)]))
  have hl3 : g0 < W2.heap.size := row_lt H0.out
  refine abs_code (fun X => X.heap[g0]? = some (.cells (blindC 0 0 0 0 0) 28 (0, 0)) ∧ X.heap[W2.heap.size]? = some (.cells (blindC (1 + (p : Int)) z 0 0 0) 28 (0, 0)) ∧ SrcAt X b v n (m + 8) ∧ V.grownBy X (some b)) ⟨((alloc_row _ _).block _ (row_lt H0.out) (by simp)).trans H0.out, setRow_heap _ _ _ _ _ _ (heap_alloc_new _ _), src_kept HS.out (alloc_row _ _) (fun g e => by cases e), grown_t HG.out (grown_wide (alloc_row _ _))⟩ ?_
  clear H0 HS HG HBI hw hw8
  generalize W2.heap.size = g3 at *
  rintro X ⟨h0, h3, hs, hg⟩
  have hne3 : g3 ≠ b := by omega
  have H0 := Lib.hid h0
  have H3 := Lib.hid h3
  have HS := Lib.hid hs
  have HG := Lib.hid hg
  clear h0 h3 hs hg
  go_upto_region 3 with (go_at_call 49; refine (HZ2.out _ HS.out).mono ?_; rintro e W3 ⟨⟨z2, rfl, hz2⟩, hs1, hg1⟩; replace HS := Lib.hid hs1; replace HG := Lib.hid (grown_t HG.out hg1); replace H0 := Lib.hid (row_grown H0.out hg1 hne0); replace H3 := Lib.hid (row_grown H3.out hg1 hne3); have f3 := frozen_of_row _ g3 2 _ _ H3.out; obtain ⟨q0, q1, q2, q3, q4⟩ := blind_cells H3.out; clear hs1 hg1)
  refine abs_code (fun Y => Y.heap[g0]? = some (.cells (blindC 0 0 0 0 0) 28 (0, 0)) ∧ Y.heap[g3]? = some (.cells (blindC (1 + (p : Int)) z z2 0 0) 28 (0, 0)) ∧ SrcAt Y b v n (m + 14) ∧ V.grownBy Y (some b)) ⟨(heap_setCell_other _ _ _ _ (by simp; omega)).trans H0.out, by rw [heap_setCell_same _ _ _ _ _ _ H3.out]; rfl, src_kept HS.out (grown_set (b := g3) (o := 2) _) (fun g e => by injection e with e; omega), grown_new HG.out (grown_set (b := g3) (o := 2) _) (by omega)⟩ ?_
  clear H0 H3 HS HG f3 q0 q1 q2 q3 q4
  rintro Y3 ⟨h0, h3, hs, hg⟩
  have H0 := Lib.hid h0
  have H3 := Lib.hid h3
  have HS := Lib.hid hs
  have HG := Lib.hid hg
  clear h0 h3 hs hg
  go_upto_region 4 with (go_at_call 48; refine (HP2.out _ HS.out).mono ?_; rintro e W4 ⟨⟨y, rfl, t0, t1⟩, hs1, hg1⟩; replace HS := Lib.hid hs1; replace HG := Lib.hid (grown_t HG.out hg1); replace H0 := Lib.hid (row_grown H0.out hg1 hne0); replace H3 := Lib.hid (row_grown H3.out hg1 hne3); have f3 := frozen_of_row _ g3 3 _ _ H3.out; obtain ⟨q0, q1, q2, q3, q4⟩ := blind_cells H3.out; clear hs1 hg1; have hw1 : IntKind.i64.wrap (y - 64) = y - 64 := (by rw [IntWalk.i64_in _ (by omega)]); have hw2 : IntKind.i16.wrap (y - 64) = y - 64 := (by rw [IntWalk.i16_in _ (by omega)]))
  refine abs_code (fun Y => Y.heap[g0]? = some (.cells (blindC 0 0 0 0 0) 28 (0, 0)) ∧ Y.heap[g3]? = some (.cells (blindC (1 + (p : Int)) z z2 (y - 64) 0) 28 (0, 0)) ∧ SrcAt Y b v n (m + 16) ∧ V.grownBy Y (some b)) ⟨(heap_setCell_other _ _ _ _ (by simp; omega)).trans H0.out, by rw [heap_setCell_same _ _ _ _ _ _ H3.out]; rfl, src_kept HS.out (grown_set (b := g3) (o := 3) _) (fun g e => by injection e with e; omega), grown_new HG.out (grown_set (b := g3) (o := 3) _) (by omega)⟩ ?_
  clear H0 H3 HS HG f3 q0 q1 q2 q3 q4
  rintro Y4 ⟨h0, h3, hs, hg⟩
  have H0 := Lib.hid h0
  have H3 := Lib.hid h3
  have HS := Lib.hid hs
  have HG := Lib.hid hg
  clear h0 h3 hs hg
  go_upto_region 5 with (go_at_call 25; refine (HT.out _ HS.out).mono ?_; rintro e W5 ⟨⟨z4, rfl, hz4⟩, hs1, hg1⟩; replace HS := Lib.hid hs1; replace HG := Lib.hid (grown_t HG.out hg1); replace H0 := Lib.hid (row_grown H0.out hg1 hne0); replace H3 := Lib.hid (row_grown H3.out hg1 hne3); have f3 := frozen_of_row _ g3 4 _ _ H3.out; obtain ⟨q0, q1, q2, q3, q4⟩ := blind_cells H3.out; clear hs1 hg1)
  refine abs_code (fun Y => Y.heap[g0]? = some (.cells (blindC 0 0 0 0 0) 28 (0, 0)) ∧ Y.heap[g3]? = some (.cells (blindC (1 + (p : Int)) z z2 (y - 64) z4) 28 (0, 0)) ∧ SrcAt Y b v n (m + 22) ∧ V.grownBy Y (some b)) ⟨(heap_setCell_other _ _ _ _ (by simp; omega)).trans H0.out, by rw [heap_setCell_same _ _ _ _ _ _ H3.out]; rfl, src_kept HS.out (grown_set (b := g3) (o := 4) _) (fun g e => by injection e with e; omega), grown_new HG.out (grown_set (b := g3) (o := 4) _) (by omega)⟩ ?_
  clear H0 H3 HS HG f3 q0 q1 q2 q3 q4
  rintro Y5 ⟨h0, h3, hs, hg⟩
  have H0 := Lib.hid h0
  have H3 := Lib.hid h3
  have HS := Lib.hid hs
  have HG := Lib.hid hg
  clear h0 h3 hs hg
  go_wp2_with (first | (refine wpList_load_part rfl 28 _ rfl g3 0 5 rfl 28 (blindC (1 + (p : Int)) z z2 (y - 64) z4) (0, 0) _ H3.out Try.underlying28 rfl info_blind (blind_fits _ _ _ _ _) _ (blind_all _ _ _ _ _) ?_) | (refine wpList_store_part rfl 28 _ _ rfl g0 0 (blindC (1 + (p : Int)) z z2 (y - 64) z4) rfl rfl 28 (blindC 0 0 0 0 0) H0.out info_blind (Nat.le_refl _) (by intro u hu; simp only [blindC, List.mem_toArray, List.mem_cons, List.not_mem_nil, or_false] at hu; rcases hu with rfl | rfl | rfl | rfl | rfl <;> rfl) ?_; rw [laid_all _ _ (by rfl)]))
  have hsr : Y5.grownBy (Y5.setRow g0 (blindC (1 + (p : Int)) z z2 (y - 64) z4)) (some g0) := ⟨rfl, rfl, rfl, by simp, fun k _ hk => setRow_other _ _ _ _ (fun e => hk (congrArg some e))⟩
  refine bodyPost_ret (v := .agg (blindC (1 + (p : Int)) z z2 (y - 64) z4)) (results_cell_row rfl _ _ _ _ _ _ _ rfl (setRow_heap _ _ _ _ _ _ H0.out) Try.underlying28 rfl info_blind) rfl ?_
  exact ⟨⟨_, _, _, _, _, rfl, by omega, by omega, hz, hz2, by omega, by omega, hz4⟩, src_kept HS.out hsr (fun g e => by injection e with e; omega), grown_new HG.out hsr (by omega)⟩

end Go.Proofs.Ytdccmdcgbembpaa

namespace Go.Proofs.Ytdccmdcgbembpaa
open Go.RowKit

attribute [local go_sem] run_store_float

theorem bytes_below {V V' : World} {B B' n : Nat} {v : Value} (h : BytesAt V B v n) (hb : Below V.heap.size V V') (hB : B ≤ B') : BytesAt V' B' v n := by
  obtain ⟨a, cap, e1, e2, e3, e4⟩ := h
  refine ⟨a, cap, e1, e2, e3, fun i hi => ?_⟩
  obtain ⟨g, o, z, e, hgb, z0, z1, hc⟩ := e4 i hi
  exact ⟨g, o, z, e, by omega, z0, z1, (hb.cell (p := ⟨g, o + i, none⟩) (World.block_lt_of_cell? _ _ hc)).trans hc⟩

theorem below_grown {A B C : World} {b : Nat} (h : Below A.heap.size A B) (k : B.grownBy C (some b)) (hb : A.heap.size ≤ b) : Below A.heap.size A C :=
  h.grown k h.size (fun j e => by injection e with e; omega)

set_option maxRecDepth 100000 in
set_option maxHeartbeats 2000000 in
theorem A2Part_any (n cap : Nat) (a : Option Addr) (V : World) (h : BytesAt V V.heap.size (.slice a n cap) n) :
    Calls Try.prog 7 #[.slice a n cap] V fun e V' => (∃ z : Nat, e = .returned (.float .f32 z) ∧ z ≤ 1065353216) ∧ Below V.heap.size V V' := by
  have HFR := Lib.hid (fun V h => l00From_any n cap a V h)
  have HT := Lib.hid (fun b V h => l01Tone_any b n 0 (.slice a n cap) (by decide) V h)
  have HBY := Lib.hid h
  clear h
  go_enter Try.func7, Try.ntmps7
  go_wp2_with (first | (go_at_call 24; refine (HFR.out _ HBY.out).mono ?_; rintro e W1 ⟨rfl, hs1, hb1⟩) | (go_at_call 25; refine (HT.out _ _ hs1).mono ?_; rintro e W2 ⟨⟨z, rfl, hz⟩, hs2, hg2⟩))
  go_ret
  exact ⟨⟨_, rfl, hz⟩, below_grown hb1 hg2 (Nat.le_refl _)⟩

set_option maxRecDepth 100000 in
set_option maxHeartbeats 2000000 in
theorem A2Blind_any (n cap : Nat) (a : Option Addr) (V : World) (h : BytesAt V V.heap.size (.slice a n cap) n) :
    Calls Try.prog 5 #[.slice a n cap] V fun e V' => (∃ (k : Int) (wd gp : Nat) (t : Int) (sh : Nat), e = .returned (.agg (blindC k wd gp t sh)) ∧ 1 ≤ k ∧ k ≤ 60 ∧ Sized wd ∧ Sized gp ∧ -64 ≤ t ∧ t ≤ 64 ∧ sh ≤ 1065353216) ∧ Below V.heap.size V V' := by
  have HFR := Lib.hid (fun V h => l00From_any n cap a V h)
  have HT := Lib.hid (fun b V h => l02Drawn_any b n 0 (.slice a n cap) (by decide) V h)
  have HB0 := Lib.hid h
  clear h
  go_enter Try.func5, Try.ntmps5
  go_upto_region 1 with (fail)
  refine abs_code (fun W => W.heap[V.heap.size]? = some (.cells (blindC 0 0 0 0 0) 28 (0, 0)) ∧ Below V.heap.size V W) ⟨heap_alloc_new _ _, (Below.refl _ _).alloc (Nat.le_refl _) _⟩ ?_
  rintro W ⟨h0, hb⟩
  have H0 := Lib.hid h0
  have HBY := Lib.hid (bytes_below HB0.out hb hb.size)
  have hl0 := row_lt h0
  clear h0 HB0
  go_wp2_with (first | (go_at_call 24; refine (HFR.out _ HBY.out).mono ?_; rintro e W1 ⟨rfl, hs1, hb1⟩) | (go_at_call 23; refine (HT.out _ _ hs1).mono ?_; rintro e W2 ⟨⟨k, wd, gp, t, sh, rfl, hk⟩, hs2, hg2⟩; have H2 := Lib.hid (row_grown (below_row hb1 H0.out) hg2 (by omega)); have hb2 := below_grown hb1 hg2 (Nat.le_refl _)) | (refine wpList_store_part rfl 28 _ _ rfl V.heap.size 0 (blindC k wd gp t sh) rfl rfl 28 (blindC 0 0 0 0 0) H2.out info_blind (Nat.le_refl _) (by intro u hu; simp only [blindC, List.mem_toArray, List.mem_cons, List.not_mem_nil, or_false] at hu; rcases hu with rfl | rfl | rfl | rfl | rfl <;> rfl) ?_; rw [laid_all _ _ (by rfl)]))
  refine bodyPost_ret (v := .agg (blindC k wd gp t sh)) (results_cell_row rfl _ _ _ _ _ _ _ rfl (setRow_heap _ _ _ _ _ _ H2.out) Try.underlying28 rfl info_blind) rfl ?_
  exact ⟨⟨_, _, _, _, _, rfl, hk⟩, below_setRow (hb.trans (hb2.mono hb.size)) (Nat.le_refl _) _⟩

set_option maxRecDepth 100000 in
set_option maxHeartbeats 2000000 in
theorem a2Long_any (n cap n' cap' : Nat) (a a' : Option Addr) (V : World) :
    Calls Try.prog 4 #[.slice a n cap, .slice a' n' cap'] V fun e V' => e = .returned (.bool (decide (3000 < n) || decide (3000 < n'))) ∧ V = V' := by
  by_cases h : (n : Int) > 3000
  · have e1 : decide (3000 < n) = true := decide_eq_true (by omega)
    have z1 : decide ((n : Int) > 3000) = true := decide_eq_true h
    rw [e1]
    go_enter Try.func4, Try.ntmps4
    go_wp2
    go_ret
    exact ⟨rfl, rfl⟩
  · have e1 : decide (3000 < n) = false := decide_eq_false (by omega)
    have z1 : decide ((n : Int) > 3000) = false := decide_eq_false h
    rw [e1, Bool.false_or]
    by_cases h2 : (n' : Int) > 3000
    · have e2 : decide (3000 < n') = true := decide_eq_true (by omega)
      have z2 : decide ((n' : Int) > 3000) = true := decide_eq_true h2
      rw [e2]
      go_enter Try.func4, Try.ntmps4
      go_wp2
      go_ret
      exact ⟨rfl, rfl⟩
    · have e2 : decide (3000 < n') = false := decide_eq_false (by omega)
      have z2 : decide ((n' : Int) > 3000) = false := decide_eq_false h2
      rw [e2]
      go_enter Try.func4, Try.ntmps4
      go_wp2
      go_ret
      exact ⟨rfl, rfl⟩

set_option maxRecDepth 100000 in
set_option maxHeartbeats 2000000 in
theorem a2At_any (n cap : Nat) (a : Option Addr) (at' k : Int) (h0 : 0 ≤ at') (k0 : 1 ≤ k) (k1 : k ≤ 65536) (B : Nat) (V : World) (h : BytesAt V B (.slice a n cap) n) :
    Calls Try.prog 6 #[.slice a n cap, .int .i64 at', .int .i64 k] V fun e V' => (∃ r : Int, e = .returned (.int .i64 r) ∧ 0 ≤ r ∧ r < k) ∧ V = V' := by
  obtain ⟨a1, cap1, e1, e2, e3, e4⟩ := h
  injection e1 with ea _ ec
  subst ea ec
  unfold maxLen at e3
  have zk : decide (k < 1) = false := decide_eq_false (by omega)
  have hne : k ≠ 0 := by omega
  by_cases hc : at' ≥ (n : Int)
  · have z1 : decide (at' ≥ (n : Int)) = true := decide_eq_true hc
    clear e4
    go_enter Try.func6, Try.ntmps6
    go_wp2
    go_ret
    exact ⟨⟨0, rfl, by omega, by omega⟩, rfl⟩
  · have z1 : decide (at' ≥ (n : Int)) = false := decide_eq_false hc
    obtain ⟨i, rfl⟩ := Int.eq_ofNat_of_zero_le h0
    obtain ⟨g, o, x, eg, hgb, x0, x1, hcx⟩ := e4 i (by omega)
    subst eg
    have z2 : (i : Int) < (n : Int) := by omega
    have hwx : IntKind.i64.wrap x = x := by rw [IntWalk.i64_in _ (by omega)]
    have hr : 0 ≤ x % k ∧ x % k < k := ⟨Int.emod_nonneg _ hne, Int.emod_lt_of_pos _ (by omega)⟩
    clear e4
    go_enter Try.func6, Try.ntmps6
    go_wp2
    go_ret
    exact ⟨⟨_, rfl, hr⟩, rfl⟩

end Go.Proofs.Ytdccmdcgbembpaa

namespace Go.Proofs.Ytdccmdcgbembpaa
open Go.ChangeShapes Go.WideShapes Go.ChangeAt Go.RowKit

set_option maxRecDepth 100000 in
theorem open_byteS {H : Type} {enc : TypeId × Value → H} {W : World} {b0 base : Nat} {spare : Nat → Bool} {held : Bool} {r : Reach} {v : Value} {d : DataW H} {p : List MemPlace}
    (hv : Value.okWide Try.prog W r b0 22 v) (h : DataW.Trod enc Try.prog W base spare held 22 v d p) : ∃ a n cap, v = .slice a n cap ∧ BytesAt W W.heap.size (.slice a n cap) n := by
  obtain ⟨a0, len0, cap0, rfl⟩ := okWide_slice Try.underlying22 hv
  obtain ⟨fuel, hf⟩ := h
  rcases open_ints Try.underlying22 Try.underlying5 (by kernel_rfl) hf with ⟨hcs, _⟩ | ⟨a, len, cap, zs, hcs, _, hl, hm, hz, _, hcell, hwz⟩
  · simp [Value.cells] at hcs
    obtain ⟨rfl, rfl, rfl⟩ := hcs
    exact ⟨none, 0, 0, rfl, none, 0, rfl, Nat.le_refl _, by unfold maxLen; omega, fun i hi => absurd hi (Nat.not_lt_zero i)⟩
  · simp [Value.cells] at hcs
    obtain ⟨rfl, rfl, rfl⟩ := hcs
    have hlz : len0 ≤ zs.length := by rw [hz]; split <;> omega
    refine ⟨some a, len0, cap0, rfl, some a, cap0, rfl, by omega, hm, fun i hi => ?_⟩
    have hc := hcell i (by omega)
    have hsp : a.spot = none := by
      have := World.cell?_spot (hcell 0 (by omega))
      simpa [Addr.add] using this
    obtain ⟨g, o, spot⟩ := a
    obtain rfl : spot = none := hsp
    rw [addr_add] at hc
    have hw : (Lit.int .u8 (zs.getD i 0)).wf = true := by
      have e : zs.getD i 0 = zs[i]'(by omega) := by simp [List.getD, List.getElem?_eq_getElem (show i < zs.length by omega)]
      rw [e]
      exact hwz _ (List.getElem_mem _)
    generalize zs.getD i 0 = q at hw hc
    have hb : 0 ≤ q ∧ q ≤ 255 := by
      simp [Lit.wf, IntKind.min, IntKind.max, IntKind.signed, IntKind.bits] at hw
      omega
    have hlt := World.block_lt_of_cell? _ _ hc
    exact ⟨g, o, q, rfl, hlt, hb.1, hb.2, hc⟩

end Go.Proofs.Ytdccmdcgbembpaa

namespace Go.Proofs.Ytdccmdcgbembpaa
open Go.RowKit

theorem ltF_sv {x y : Nat} (hx : isNum x) (hy : isNum y) : ltF x y = decide (sv x < sv y) := by
  unfold ltF
  rw [order_num hx hy]
  simp only [compare, compareOfLessAndEq]
  by_cases h : sv x < sv y
  · rw [if_pos h, decide_eq_true h]; rfl
  · rw [if_neg h, decide_eq_false h]
    split <;> rfl

theorem firstMin_least {d : Nat → Nat} (hd : ∀ k, isNum (d k)) : ∀ n k, k ≤ n → sv (d (firstMin d n)) ≤ sv (d k)
  | 0, k, h => by
    obtain rfl : k = 0 := by omega
    exact Int.le_refl _
  | n + 1, k, h => by
    have ih := firstMin_least hd n
    unfold firstMin
    rw [ltF_sv (hd _) (hd _)]
    by_cases c : sv (d (n + 1)) < sv (d (firstMin d n))
    · rw [if_pos (decide_eq_true c)]
      by_cases e : k = n + 1
      · rw [e]; exact Int.le_refl _
      · have := ih k (by omega); omega
    · rw [if_neg (by rw [decide_eq_false c]; decide)]
      by_cases e : k = n + 1
      · rw [e]; omega
      · exact ih k (by omega)

theorem firstMin_first {d : Nat → Nat} (hd : ∀ k, isNum (d k)) : ∀ n k, k < firstMin d n → sv (d (firstMin d n)) < sv (d k)
  | 0, k, h => absurd h (Nat.not_lt_zero k)
  | n + 1, k, h => by
    have ih := firstMin_first hd n
    have il := firstMin_least hd n
    unfold firstMin at h ⊢
    rw [ltF_sv (hd _) (hd _)] at h ⊢
    by_cases c : sv (d (n + 1)) < sv (d (firstMin d n))
    · rw [if_pos (decide_eq_true c)] at h ⊢
      have := il k (by omega)
      omega
    · rw [if_neg (by rw [decide_eq_false c]; decide)] at h ⊢
      exact ih k h

/-- How far a number is from what is wanted, against the first of the nearest. -/
theorem near_facts {d : Nat → Nat} (hd : ∀ k, isNum (d k)) {n k : Nat} (hk : k ≤ n) :
    (FloatKind.f32.format.order (d k) (d (firstMin d n)) = some .eq ∧ firstMin d n ≤ k) ∨ FloatKind.f32.format.order (d k) (d (firstMin d n)) = some .gt := by
  have h1 := firstMin_least hd n k hk
  have h2 := firstMin_first hd n k
  rw [order_num (hd _) (hd _)]
  simp only [compare, compareOfLessAndEq]
  rw [if_neg (by omega)]
  by_cases e : sv (d k) = sv (d (firstMin d n))
  · rw [if_pos e]
    left
    refine ⟨rfl, ?_⟩
    by_cases c : k < firstMin d n
    · have := h2 c; omega
    · omega
  · rw [if_neg e]
    exact .inr rfl

end Go.Proofs.Ytdccmdcgbembpaa

namespace Go.Proofs.Ytdccmdcgbembpaa
open Go.RowKit

theorem ge0_pos {x y : Nat} (hx : x < 2139095040) (hy : y < 2139095040) (h : y ≤ x) : ge0 (FloatKind.f32.format.order x y) = true := by
  rw [order_pos hx hy]
  simp only [compare, compareOfLessAndEq]
  rw [if_neg (by omega)]
  split <;> rfl

theorem le0_pos {x y : Nat} (hx : x < 2139095040) (hy : y < 2139095040) (h : x ≤ y) : le0 (FloatKind.f32.format.order x y) = true := by
  rw [order_pos hx hy]
  simp only [compare, compareOfLessAndEq]
  by_cases c : x < y
  · rw [if_pos c]; rfl
  · rw [if_neg c, if_pos (by omega)]; rfl

theorem betw_pos {x lo hi : Nat} (h0 : lo ≤ x) (h1 : x ≤ hi) (h2 : hi < 2139095040) : betw x lo hi = true := by
  unfold betw
  rw [ge0_pos (by omega) (by omega) h0, le0_pos (by omega) h2 h1]
  rfl

theorem sized_len {z : Nat} (h : Sized z) : lenB z = true := betw_pos h.1 h.2 (by decide)

theorem tone_part {z : Nat} (h : z ≤ 1065353216) : partB z = true := betw_pos (Nat.zero_le _) h (by decide)

theorem low_wf {z : Nat} (h : z < 4294967296) : (Lit.float .f32 z).wf = true := by simpa [Lit.wf] using h

theorem drawn_ok {k : Int} {wd gp : Nat} {t : Int} {sh : Nat} (h : 1 ≤ k ∧ k ≤ 60 ∧ Sized wd ∧ Sized gp ∧ -64 ≤ t ∧ t ≤ 64 ∧ sh ≤ 1065353216) : okBl k wd gp t sh = true ∧ BlWf k wd gp t sh := by
  obtain ⟨h1, h2, h3, h4, h5, h6, h7⟩ := h
  constructor
  · unfold okBl
    rw [sized_len h3, sized_len h4, tone_part h7]
    unfold inI
    simp
    omega
  · refine ⟨?_, low_wf (by have := h3.2; omega), low_wf (by have := h4.2; omega), ?_, low_wf (by omega)⟩
    · simp [Lit.wf, IntKind.min, IntKind.max, IntKind.signed, IntKind.bits]; omega
    · simp [Lit.wf, IntKind.min, IntKind.max, IntKind.signed, IntKind.bits]; omega

end Go.Proofs.Ytdccmdcgbembpaa

namespace Go.Proofs.Ytdccmdcgbembpaa
open Go.ChangeShapes Go.WideShapes Go.ChangeAt Go.RowKit

/-- The first number from 0 on, and the code. -/
def cutX (xs : List Int) : Int := (xs.find? (fun x : Int => decide (0 ≤ x))).getD 0
def cutC (xs : List Int) : Int := if (xs.find? (fun x : Int => decide (0 ≤ x))).isSome then 0 else 6
def RetCut (xs : List Int) (w : World) (e : Ending) (w' : World) : Prop := e = .returned (.tuple #[.int .i64 (cutX xs), .int .i64 (cutC xs)]) ∧ Below w.heap.size w w'

theorem find_drop {xs : List Int} {k : Nat} {x : Int} (hx : xs[k]? = some x) : xs.drop k = x :: xs.drop (k + 1) := by
  obtain ⟨h, e⟩ := List.getElem?_eq_some_iff.1 hx
  rw [← e]
  exact List.drop_eq_getElem_cons h
theorem find_hit {xs : List Int} {k : Nat} {x : Int} (h : xs.find? (fun x : Int => decide (0 ≤ x)) = (xs.drop k).find? (fun x : Int => decide (0 ≤ x))) (hx : xs[k]? = some x) (h0 : 0 ≤ x) : cutX xs = x ∧ cutC xs = 0 := by
  have h1 : xs.find? (fun x : Int => decide (0 ≤ x)) = some x := by rw [h, find_drop hx]; simp [h0]
  unfold cutX cutC
  rw [h1]
  exact ⟨rfl, rfl⟩
theorem find_miss {xs : List Int} {k : Nat} {x : Int} (h : xs.find? (fun x : Int => decide (0 ≤ x)) = (xs.drop k).find? (fun x : Int => decide (0 ≤ x))) (hx : xs[k]? = some x) (h0 : ¬ 0 ≤ x) : xs.find? (fun x : Int => decide (0 ≤ x)) = (xs.drop (k + 1)).find? (fun x : Int => decide (0 ≤ x)) := by
  rw [h, find_drop hx]
  simp [h0]
theorem find_end {xs : List Int} (h : xs.find? (fun x : Int => decide (0 ≤ x)) = (xs.drop xs.length).find? (fun x : Int => decide (0 ≤ x))) : cutX xs = 0 ∧ cutC xs = 6 := by
  have h1 : xs.find? (fun x : Int => decide (0 ≤ x)) = none := by rw [h]; simp
  unfold cutX cutC
  rw [h1]
  exact ⟨rfl, rfl⟩

set_option maxRecDepth 100000 in
set_option maxHeartbeats 1000000 in
theorem implCutOff_yes (n : Int) (wd gp : Nat) (t : Int) (sh : Nat) (h : Int) (xs : List Int) (hn : xs.length ≤ 1000) (hI : ∀ w, Calls Try.prog 10 #[.agg (blindC n wd gp t sh), .int .i64 h] w (RetList xs 0 w)) (w : World) :
    Calls Try.prog 14 #[.agg (blindC n wd gp t sh), .int .i64 h] w (RetCut xs w) := by
  have HC := Lib.hid hI
  clear hI
  go_enter Try.func14, Try.ntmps14
  go_upto_region 1 with (fail)
  refine abs_world (fun W => Below w.heap.size w W ∧ W.heap[w.heap.size]? = some (.cells (blindC n wd gp t sh) 28 (0, 0))) ⟨(Below.refl _ _).alloc (Nat.le_refl _) _, heap_alloc_new _ _⟩ ?_
  rintro W ⟨hb, d0⟩
  have H0 := Lib.hid d0
  clear d0
  go_upto_region 4 with (first | (refine wpList_load_part rfl 28 _ rfl w.heap.size 0 5 rfl 28 (blindC n wd gp t sh) (0, 0) _ H0.out Try.underlying28 rfl info_blind (blind_fits _ _ _ _ _) _ (blind_all _ _ _ _ _) ?_) | (go_at_call 10; refine (HC.out _).mono ?_; rintro e W1 ⟨⟨v, rfl, hv⟩, hb1⟩; replace hv := own_base hv hb.size; have hW := Nat.le_trans hb.size hb1.size; replace hb := hb.trans (hb1.mono hb.size); clear hb1))
  obtain ⟨a1, c1, rfl, hm⟩ := own_len hv
  have HO1 : Hid (∀ wr, Below W1.heap.size W1 wr → Own wr w.heap.size 2 (Value.int .i64) (.slice a1 xs.length c1) xs) := fun wr hb => own_below hv hb (Nat.le_refl _)
  have hst : xs.find? (fun x : Int => decide (0 ≤ x)) = (xs.drop 0).find? (fun x : Int => decide (0 ≤ x)) := rfl
  have HB := Lib.hid (fun (wr : World) (h : Below W1.heap.size W1 wr) => hb.trans (h.mono hb.size))
  clear hv hb
  unfold maxLen at hm
  go_wp2
  go_loopw [9, 21] (fun d i wr => ∃ k : Nat, k ≤ xs.length ∧ i = .int .i64 k ∧ Hid (xs.find? (fun x : Int => decide (0 ≤ x)) = (xs.drop k).find? (fun x : Int => decide (0 ≤ x))) ∧ Below W1.heap.size W1 wr) (fun _ i _ => xs.length - (intOf i).toNat)
  case atStart => exact ⟨0, Nat.zero_le _, rfl, hst, Below.refl _ _⟩
  case round =>
    obtain ⟨k, hk, rfl, hf, hb⟩ := hrel
    by_cases hlt : k < xs.length
    · obtain ⟨g1, cur1, rfl, _, hg1, hc1, hm1, x, hx, hk1⟩ := own_get (HO1.out wr hb) k hlt
      have q1 := cell_k hg1 hk1
      unfold maxLen at hm1
      clear hg1 hk1
      have z0 : (0 : Int) ≤ (k : Int) := by omega
      have z1 : (k : Int) < (xs.length : Int) := by omega
      by_cases hx0 : 0 ≤ x
      · have HX := Lib.hid (find_hit hf.out hx hx0)
        clear hx hst
        go_wp2
        go_ret2
        exact ⟨by rw [HX.out.1, HX.out.2]; rfl, HB.out _ hb⟩
      · have HX := Lib.hid (find_miss hf.out hx hx0)
        clear hx hst
        go_wp2
        go_roundw
        case rel => exact ⟨k + 1, by omega, by simp, HX, hb⟩
        case measure => simp [intOf]; omega
    · obtain rfl : k = xs.length := by omega
      have HX := Lib.hid (find_end hf.out)
      clear hst hlt
      go_wp2
      go_ret2
      exact ⟨by rw [HX.out.1, HX.out.2]; rfl, HB.out _ hb⟩

set_option maxRecDepth 100000 in
set_option maxHeartbeats 1000000 in
theorem implCutOff_no (n : Int) (wd gp : Nat) (t : Int) (sh : Nat) (h : Int) (xs : List Int) (c : Int) (hne : (c != 0) = true) (hI : ∀ w, Calls Try.prog 10 #[.agg (blindC n wd gp t sh), .int .i64 h] w (RetList xs c w)) (w : World) :
    Calls Try.prog 14 #[.agg (blindC n wd gp t sh), .int .i64 h] w (fun e w' => e = .returned (.tuple #[.int .i64 0, .int .i64 c]) ∧ Below w.heap.size w w') := by
  have HC := Lib.hid hI
  clear hI
  go_enter Try.func14, Try.ntmps14
  go_upto_region 1 with (fail)
  refine abs_world (fun W => Below w.heap.size w W ∧ W.heap[w.heap.size]? = some (.cells (blindC n wd gp t sh) 28 (0, 0))) ⟨(Below.refl _ _).alloc (Nat.le_refl _) _, heap_alloc_new _ _⟩ ?_
  rintro W ⟨hb, d0⟩
  have H0 := Lib.hid d0
  clear d0
  go_upto_region 3 with (first | (refine wpList_load_part rfl 28 _ rfl w.heap.size 0 5 rfl 28 (blindC n wd gp t sh) (0, 0) _ H0.out Try.underlying28 rfl info_blind (blind_fits _ _ _ _ _) _ (blind_all _ _ _ _ _) ?_) | (go_at_call 10; refine (HC.out _).mono ?_; rintro e W1 ⟨⟨v, rfl, hv⟩, hb1⟩; replace hb := hb.trans (hb1.mono hb.size); clear hb1))
  clear hv
  go_wp2
  go_ret2
  exact ⟨rfl, hb⟩

set_option maxRecDepth 100000 in
set_option maxHeartbeats 1000000 in
theorem specCutOff_yes (n : Int) (wd gp : Nat) (t : Int) (sh : Nat) (bw : BlWf n wd gp t sh) (h : Int) (hk : okBl n wd gp t sh = true) (hi : inI 1 64 h = true) (w : World) :
    Calls Try.prog 15 #[.agg (blindC n wd gp t sh), .int .i64 h] w (RetCut (wantT (shutP wd gp h) (tls 129)) w) := by
  obtain ⟨T0, T1⟩ := blwf_t bw
  obtain ⟨N0, N1⟩ := blwf_n bw
  obtain ⟨h0, h1⟩ := inI_get hi
  have OK := blok_of bw hk
  have HC := Lib.hid (fun W => l02Shut_any n wd gp t sh OK h h0 h1 W)
  have Hc : Hid (codeC (okBl n wd gp t sh) true = 0) := by rw [hk]; rfl
  have Hi := Lib.hid hi
  have hn := wantT_len (shutP wd gp h) (tls 129)
  rw [tls_length] at hn
  generalize wantT (shutP wd gp h) (tls 129) = xs at *
  clear OK h0 h1 hk hi bw
  go_enter Try.func15, Try.ntmps15
  go_upto_region 1 with (fail)
  refine abs_world (fun W => Below w.heap.size w W ∧ W.heap[w.heap.size]? = some (.cells (blindC n wd gp t sh) 28 (0, 0))) ⟨(Below.refl _ _).alloc (Nat.le_refl _) _, heap_alloc_new _ _⟩ ?_
  rintro W ⟨hb, d0⟩
  have D0 := Lib.hid d0
  clear d0
  go_upto_region 5 with (first | (go_at_call 34; refine (l02Up_is h true Hi.out _).mono ?_; rintro e w' ⟨rfl, rfl⟩) | (go_at_call 33; refine (l02Asked_is n wd gp t sh T0 T1 N0 N1 w.heap.size _ _ true 0 Hc.out _ D0.out).mono ?_; rintro e w' ⟨rfl, rfl⟩) | (refine wpList_load_part rfl 28 _ rfl w.heap.size 0 5 rfl 28 (blindC n wd gp t sh) (0, 0) _ D0.out Try.underlying28 rfl info_blind (blind_fits _ _ _ _ _) _ (blind_all _ _ _ _ _) ?_) | (go_at_call 41; refine (HC.out _).mono ?_; rintro e W1 ⟨⟨v, rfl, hv⟩, hb1⟩; replace hv := own_base hv hb.size; have hW := Nat.le_trans hb.size hb1.size; replace hb := hb.trans (hb1.mono hb.size); clear hb1))
  obtain ⟨a1, c1, rfl, hm⟩ := own_len hv
  have HO1 : Hid (∀ wr, Below W1.heap.size W1 wr → Own wr w.heap.size 2 (Value.int .i64) (.slice a1 xs.length c1) xs) := fun wr hb => own_below hv hb (Nat.le_refl _)
  have hst : xs.find? (fun x : Int => decide (0 ≤ x)) = (xs.drop 0).find? (fun x : Int => decide (0 ≤ x)) := rfl
  have HB := Lib.hid (fun (wr : World) (h : Below W1.heap.size W1 wr) => hb.trans (h.mono hb.size))
  clear hv hb
  unfold maxLen at hm
  go_wp2
  go_loopw [8] (fun i wr => ∃ k : Nat, k ≤ xs.length ∧ i = .int .i64 k ∧ Hid (xs.find? (fun x : Int => decide (0 ≤ x)) = (xs.drop k).find? (fun x : Int => decide (0 ≤ x))) ∧ Below W1.heap.size W1 wr) (fun i _ => xs.length - (intOf i).toNat)
  case atStart => exact ⟨0, Nat.zero_le _, rfl, hst, Below.refl _ _⟩
  case round =>
    obtain ⟨k, hk, rfl, hf, hb⟩ := hrel
    by_cases hlt : k < xs.length
    · obtain ⟨g1, cur1, rfl, _, hg1, hc1, hm1, x, hx, hk1⟩ := own_get (HO1.out wr hb) k hlt
      have q1 := cell_k hg1 hk1
      unfold maxLen at hm1
      clear hg1 hk1
      have z0 : (0 : Int) ≤ (k : Int) := by omega
      have z1 : (k : Int) < (xs.length : Int) := by omega
      by_cases hx0 : 0 ≤ x
      · have HX := Lib.hid (find_hit hf.out hx hx0)
        clear hx hst
        go_wp2
        go_ret2
        exact ⟨by rw [HX.out.1, HX.out.2]; rfl, HB.out _ hb⟩
      · have HX := Lib.hid (find_miss hf.out hx hx0)
        clear hx hst
        go_wp2
        go_roundw
        case rel => exact ⟨k + 1, by omega, by simp, HX, hb⟩
        case measure => simp [intOf]; omega
    · obtain rfl : k = xs.length := by omega
      have HX := Lib.hid (find_end hf.out)
      clear hst hlt
      go_wp2
      go_ret2
      exact ⟨by rw [HX.out.1, HX.out.2]; rfl, HB.out _ hb⟩

set_option maxRecDepth 100000 in
set_option maxHeartbeats 1000000 in
theorem specCutOff_no (n : Int) (wd gp : Nat) (t : Int) (sh : Nat) (bw : BlWf n wd gp t sh) (h : Int) (hk : ¬ (okBl n wd gp t sh = true ∧ inI 1 64 h = true)) (w : World) :
    Calls Try.prog 15 #[.agg (blindC n wd gp t sh), .int .i64 h] w (fun e w' => e = .returned (.tuple #[.int .i64 0, .int .i64 (codeC (okBl n wd gp t sh) (inI 1 64 h))]) ∧ Below w.heap.size w w') := by
  obtain ⟨T0, T1⟩ := blwf_t bw
  obtain ⟨N0, N1⟩ := blwf_n bw
  have hne := codeC_ne hk
  generalize hf : inI 1 64 h = fine at *
  generalize hc : codeC (okBl n wd gp t sh) fine = c at *
  have Hc := Lib.hid hc
  have Hi := Lib.hid hf
  have hne' : (c != 0) = true := bne_iff_ne.2 hne
  clear hk hc hf hne bw
  go_enter Try.func15, Try.ntmps15
  go_upto_region 1 with (fail)
  refine abs_world (fun W => Below w.heap.size w W ∧ W.heap[w.heap.size]? = some (.cells (blindC n wd gp t sh) 28 (0, 0))) ⟨(Below.refl _ _).alloc (Nat.le_refl _) _, heap_alloc_new _ _⟩ ?_
  rintro W ⟨hb, d0⟩
  have D0 := Lib.hid d0
  clear d0
  go_wp2_with (first | (go_at_call 34; refine (l02Up_is h fine Hi.out _).mono ?_; rintro e w' ⟨rfl, rfl⟩) | (go_at_call 33; refine (l02Asked_is n wd gp t sh T0 T1 N0 N1 w.heap.size _ _ fine c Hc.out _ D0.out).mono ?_; rintro e w' ⟨rfl, rfl⟩))
  go_ret2
  exact ⟨rfl, hb⟩

end Go.Proofs.Ytdccmdcgbembpaa

namespace Go.Proofs.Ytdccmdcgbembpaa
open Go.RowKit

theorem own_ints {w : World} {b : Nat} {v : Value} {xs : List Int} (h : Own w b 2 (Value.int .i64) v xs) : IntsAt w v xs := by
  obtain ⟨a, cap, e1, e2, e3, e4⟩ := h
  refine ⟨a, cap, e1, e3, e2, fun i x hx => ?_⟩
  have hi := (List.getElem?_eq_some_iff.1 hx).1
  rcases e4 with ⟨_, rfl⟩ | ⟨g, cur, e, hg, hc, hk⟩
  · simp at hx
  · refine ⟨g, 0, e, ?_⟩
    have h2 := hk i hi
    rw [hx] at h2
    rw [Nat.zero_add]
    exact cell_k hc h2

theorem tls_vals : (tls 129).map (·.1) = (List.range 129).map (fun k : Nat => (k : Int) - 64) := by
  unfold tls
  rw [List.map_map]
  refine List.map_congr_left fun k hk => ?_
  exact tl_val k (List.mem_range.1 hk)

theorem wantT_has (p : Int → Bool) {t : Int} (h0 : -64 ≤ t) (h1 : t ≤ 64) : (wantT p (tls 129)).contains t = p t := by
  rw [Bool.eq_iff_iff, List.contains_iff_mem]
  unfold wantT
  rw [tls_vals, List.mem_filter]
  constructor
  · exact fun h => h.2
  · intro h
    refine ⟨List.mem_map.2 ⟨(t + 64).toNat, List.mem_range.2 (by omega), by omega⟩, h⟩

theorem find_want (p : Int → Bool) : (wantT p (tls 129)).find? (fun x : Int => decide (0 ≤ x)) = ((List.range 129).find? (fun k : Nat => p ((k : Int) - 64) && decide (0 ≤ (k : Int) - 64))).map (fun k : Nat => (k : Int) - 64) := by
  unfold wantT
  rw [tls_vals, List.find?_filter, List.find?_map]
  congr 1
  congr 1
  funext k
  simp only [Function.comp_apply, Bool.decide_and, Bool.decide_eq_true]

theorem cut_none {p : Int → Bool} (h : ∀ t : Int, 0 ≤ t → t ≤ 64 → p t = false) : cutC (wantT p (tls 129)) = 6 := by
  unfold cutC
  rw [find_want, List.find?_eq_none.2, Option.map_none]
  · rfl
  · intro k hk
    have hk2 := List.mem_range.1 hk
    by_cases c : 0 ≤ (k : Int) - 64
    · rw [h _ c (by omega)]; simp
    · rw [decide_eq_false c]; simp

theorem cut_first {p : Int → Bool} {t : Int} (h0 : 0 ≤ t) (h1 : t ≤ 64) (hp : p t = true) (hno : ∀ s : Int, 0 ≤ s → s < t → p s = false) : cutX (wantT p (tls 129)) = t ∧ cutC (wantT p (tls 129)) = 0 := by
  obtain ⟨k, rfl⟩ : ∃ k : Nat, t = (k : Int) - 64 := ⟨(t + 64).toNat, by omega⟩
  have e : (List.range 129).find? (fun k : Nat => p ((k : Int) - 64) && decide (0 ≤ (k : Int) - 64)) = some k := by
    rw [List.find?_range_eq_some]
    refine ⟨by rw [hp, decide_eq_true h0]; rfl, List.mem_range.2 (by omega), fun j hj => ?_⟩
    by_cases c : 0 ≤ (j : Int) - 64
    · rw [hno _ c (by omega)]; rfl
    · rw [decide_eq_false c]; simp
  unfold cutX cutC
  rw [find_want, e]
  exact ⟨rfl, rfl⟩

/-- The half of a part. -/
theorem half_part {z : Nat} (h : z ≤ 1065353216) : floatBits .quo .f32 z 1073741824 = some (fdiv z 1073741824) ∧ fdiv z 1073741824 ≤ 1065353216 :=
  ⟨(div_rnd (by omega) (by decide) (by decide)).1, Nat.le_trans (div_mono (X := 1065353216) (Y := 1073741824) (by decide) (by decide) (by decide) h (Nat.le_refl _)) (by decide +kernel)⟩

end Go.Proofs.Ytdccmdcgbembpaa

namespace Go.Proofs.Ytdccmdcgbembpaa
open Go.ChangeShapes Go.WideShapes Go.ChangeAt Go.RowKit Go.Deep Go.Joins

attribute [local go_sem] run_store_f

theorem laid_all3 (cs vs : Array Value) (h : cs.size = vs.size) : laid cs vs 0 = vs := by
  apply Array.ext'
  simp [laid]
  rw [← h]; simp
theorem blind_one (n : Int) (wd gp : Nat) (t : Int) (sh : Nat) : ∀ v ∈ blindC n wd gp t sh, v.oneCell' = true := by
  intro v hv
  simp only [blindC, List.mem_toArray, List.mem_cons, List.not_mem_nil, or_false] at hv
  rcases hv with rfl | rfl | rfl | rfl | rfl <;> rfl
theorem results_blind {fn : Func} {p u : Tmp} (h : fn.results = #[.cell p 28, .tmp u]) (tmps : Array Value) (w : World) (g : Nat) (n : Int) (wd gp : Nat) (t : Int) (sh : Nat) (hp : tmps.getD p undef = .pointer (some ⟨g, 0, none⟩)) (hg : w.heap[g]? = some (.cells (blindC n wd gp t sh) 28 (0, 0))) :
    (results fn tmps).run Try.prog w = .ok (.tuple #[.agg (blindC n wd gp t sh), tmps.getD u undef]) w := by
  rw [results_cell_tmp h, hp]
  have e := run_loadVar_row w g 28 28 (blindC n wd gp t sh) (0, 0) _ hg Try.underlying28 rfl info_blind
  simp only [asAddr, Sem.run_pure, Result.andThen_ok, e]

set_option maxRecDepth 100000 in
set_option maxHeartbeats 1000000 in
theorem tilted_any (n : Int) (wd gp : Nat) (t : Int) (sh : Nat) (x : Int) (x0 : -64 ≤ x) (x1 : x ≤ 64) (w : World) :
    Calls Try.prog 46 #[.agg (blindC n wd gp t sh), .int .i64 x] w fun e w' => e = .returned (.agg (blindC n wd gp x sh)) ∧ Below w.heap.size w w' := by
  unfold blindC
  go_enter Try.func46, Try.ntmps46
  go_wp2
  refine bodyPost_ret (v := .agg #[.int .i8 n, .float .f32 wd, .float .f32 gp, .int .i16 x, .float .f32 sh]) (by simp [results, Try.results46, go_sem]) rfl ⟨rfl, ?_⟩
  (repeat' first | exact Below.refl _ _ | assumption | refine Below.alloc ?_ (by first | omega | (simp; done) | (simp; omega)) _ | refine Below.setCell ?_ (by first | omega | (simp; done) | (simp; omega)) _ | refine Below.drew ?_)

theorem isTilt_is (h : Int) (fine : Bool) (hi : inI (-64) 64 h = fine) (w : World) : Calls Try.prog 45 #[.int .i64 h] w fun e w' => e = .returned (.bool fine) ∧ w = w' := by
  rw [← hi]; exact isTilt_any h w
theorem l02Tilt_is (h : Int) (fine : Bool) (hi : inI (-64) 64 h = fine) (w : World) : Calls Try.prog 68 #[.int .i64 h] w fun e w' => e = .returned (.bool fine) ∧ w = w' := by
  rw [← hi]; exact l02Tilt_any h w

set_option maxRecDepth 100000 in
set_option maxHeartbeats 1000000 in
theorem implTiltTo_yes (n : Int) (wd gp : Nat) (t : Int) (sh : Nat) (bw : BlWf n wd gp t sh) (h : Int) (hk : okBl n wd gp t sh = true) (hi : inI (-64) 64 h = true) (w : World) :
    Calls Try.prog 19 #[.agg (blindC n wd gp t sh), .int .i64 h] w fun e w' => e = .returned (.tuple #[.agg (blindC n wd gp h sh), .int .i64 0]) ∧ Below w.heap.size w w' := by
  obtain ⟨T0, T1⟩ := blwf_t bw
  obtain ⟨h0, h1⟩ := inI_get hi
  have Hc : Hid (codeC (okBl n wd gp t sh) true = 0) := by rw [hk]; rfl
  have Hi := Lib.hid hi
  have HT := Lib.hid (fun w => tilted_any n wd gp t sh h h0 h1 w)
  clear h0 h1 hk hi bw
  go_enter Try.func19, Try.ntmps19
  go_upto_region 1 with (fail)
  refine abs_world (fun W => Below w.heap.size w W ∧ W.heap[w.heap.size]? = some (.cells (blindC n wd gp t sh) 28 (0, 0)) ∧ W.heap[w.heap.size + 1]? = some (.cells (blindC 0 0 0 0 0) 28 (0, 0))) ⟨by (repeat' first | exact Below.refl _ _ | assumption | refine Below.alloc ?_ (by first | omega | (simp; done) | (simp; omega)) _ | refine Below.setCell ?_ (by first | omega | (simp; done) | (simp; omega)) _ | refine Below.drew ?_), heap_alloc2_old _ _ _, heap_alloc2_new _ _ _⟩ ?_
  rintro W ⟨hb, h0, h1⟩
  generalize hg1 : w.heap.size + 1 = g1 at *
  have hlt : w.heap.size ≤ g1 := by omega
  refine wp_region_held_drew (S := (fun W => W.heap[w.heap.size]? = some (.cells (blindC n wd gp t sh) 28 (0, 0)) ∧ W.heap[g1]? = some (.cells (blindC 0 0 0 0 0) 28 (0, 0)) ∧ Below w.heap.size w W)) (by kernel_rfl) ⟨h0, h1, hb.drew⟩ (fun hHeld => ?_)
  refine take_op (i := 0) (d := 7) (v := .agg (blindC n wd gp t sh)) rfl rfl (by kernel_rfl) (by kernel_rfl) (by kernel_rfl) (fun _ _ _ h => h) (yields_row (by rfl) 28 (.tmp 2) (by rfl) w.heap.size 0 5 (by rfl) 28 (blindC n wd gp t sh) (0, 0) _ (fun _ h => h.1) Try.underlying28 rfl info_blind (blind_fits _ _ _ _ _) (blindC n wd gp t sh) (blind_all _ _ _ _ _)) hHeld ?_
  simp only [List.setIfInBounds_toArray, List.set_cons_zero, List.set_cons_succ]
  refine take_op (i := 1) (d := 8) (v := ?_) rfl rfl (by kernel_rfl) (by kernel_rfl) (by kernel_rfl) (fun _ _ _ h => h) (Or.inl ⟨by rfl, ?hy1u1⟩) hHeld ?rest1u1
  case hy1u1 =>
    intro w' hS'
    go_simp
    try with_reducible rfl
  simp only [List.setIfInBounds_toArray, List.set_cons_zero, List.set_cons_succ]
  refine wpAnyH_ready (rs := [2]) (by kernel_rfl) (by simp) ?_
  refine AllReadyH.cons rfl (fun K hK => ?_) AllReadyH.nil
  go_simp
  refine (isTilt_is h _ Hi.out _).mono ?_
  rintro e w' ⟨rfl, rfl⟩
  refine hK.out _ _ (hHeld) (fun hHeld2 => ?_)
  clear hK K
  replace hHeld := hHeld2
  clear hHeld2
  refine wpAnyH_ready (rs := [3]) (by kernel_rfl) (by simp) ?_
  refine AllReadyH.cons rfl (fun K hK => ?_) AllReadyH.nil
  go_simp
  refine (checkBlind_is n wd gp t sh T0 T1 true 0 Hc.out _).mono ?_
  rintro e W1 ⟨rfl, hb1⟩
  refine hK.out _ _ (⟨below_row hb1 hHeld.1, below_row hb1 hHeld.2.1, hHeld.2.2.trans (hb1.mono hHeld.2.2.size)⟩) (fun hHeld2 => ?_)
  clear hK K
  replace hHeld := hHeld2
  clear hHeld2
  refine take_op (i := 4) (d := 6) (v := ?_) rfl rfl (by kernel_rfl) (by kernel_rfl) (by kernel_rfl) (fun _ _ _ h => h) (Or.inl ⟨by rfl, ?hy4u2⟩) hHeld ?rest4u2
  case hy4u2 =>
    intro w' hS'
    go_simp
    try with_reducible rfl
  simp only [List.setIfInBounds_toArray, List.set_cons_zero, List.set_cons_succ]
  refine wpAnyH_done (by kernel_rfl) ?_ _
  obtain ⟨hx0, hx1, hbx⟩ := hHeld
  have H0 := Lib.hid hx0
  have H1 := Lib.hid hx1
  clear hx0 hx1 h0 h1
  go_wp2_with (first | (refine wpList_load_part rfl 28 _ rfl w.heap.size 0 5 rfl 28 (blindC n wd gp t sh) (0, 0) _ H0.out Try.underlying28 rfl info_blind (blind_fits _ _ _ _ _) _ (blind_all _ _ _ _ _) ?_) | (go_at_call 46; refine (HT.out _).mono ?_; rintro e W2 ⟨rfl, hb2⟩; replace H1 := Lib.hid (below_row hb2 H1.out); replace hbx := hbx.trans (hb2.mono hbx.size)) | (refine wpList_store_part rfl 28 _ _ rfl g1 0 (blindC n wd gp h sh) rfl rfl 28 _ H1.out (by kernel_rfl) (Nat.le_refl _) (blind_one _ _ _ _ _) ?_; rw [laid_all3 _ _ (by rfl)]))
  refine bodyPost_ret (results_blind rfl _ _ g1 n wd gp h sh rfl (setRow_heap _ _ _ _ _ _ H1.out)) rfl ?_
  exact ⟨rfl, below_setRow hbx hlt _⟩

set_option maxRecDepth 100000 in
set_option maxHeartbeats 1000000 in
theorem implTiltTo_no (n : Int) (wd gp : Nat) (t : Int) (sh : Nat) (bw : BlWf n wd gp t sh) (h : Int) (hk : ¬ (okBl n wd gp t sh = true ∧ inI (-64) 64 h = true)) (w : World) :
    Calls Try.prog 19 #[.agg (blindC n wd gp t sh), .int .i64 h] w fun e w' => e = .returned (.tuple #[.agg (blindC 0 0 0 0 0), .int .i64 (codeC (okBl n wd gp t sh) (inI (-64) 64 h))]) ∧ Below w.heap.size w w' := by
  obtain ⟨T0, T1⟩ := blwf_t bw
  have hne := codeC_ne hk
  generalize hf : inI (-64) 64 h = fine at *
  generalize hc : codeC (okBl n wd gp t sh) fine = c at *
  have Hc := Lib.hid hc
  have Hi := Lib.hid hf
  have hne' : (c != 0) = true := bne_iff_ne.2 hne
  clear hk hc hf hne bw
  go_enter Try.func19, Try.ntmps19
  go_upto_region 1 with (fail)
  refine abs_world (fun W => Below w.heap.size w W ∧ W.heap[w.heap.size]? = some (.cells (blindC n wd gp t sh) 28 (0, 0)) ∧ W.heap[w.heap.size + 1]? = some (.cells (blindC 0 0 0 0 0) 28 (0, 0))) ⟨by (repeat' first | exact Below.refl _ _ | assumption | refine Below.alloc ?_ (by first | omega | (simp; done) | (simp; omega)) _ | refine Below.setCell ?_ (by first | omega | (simp; done) | (simp; omega)) _ | refine Below.drew ?_), heap_alloc2_old _ _ _, heap_alloc2_new _ _ _⟩ ?_
  rintro W ⟨hb, h0, h1⟩
  generalize hg1 : w.heap.size + 1 = g1 at *
  have hlt : w.heap.size ≤ g1 := by omega
  refine wp_region_held_drew (S := (fun W => W.heap[w.heap.size]? = some (.cells (blindC n wd gp t sh) 28 (0, 0)) ∧ W.heap[g1]? = some (.cells (blindC 0 0 0 0 0) 28 (0, 0)) ∧ Below w.heap.size w W)) (by kernel_rfl) ⟨h0, h1, hb.drew⟩ (fun hHeld => ?_)
  refine take_op (i := 0) (d := 7) (v := .agg (blindC n wd gp t sh)) rfl rfl (by kernel_rfl) (by kernel_rfl) (by kernel_rfl) (fun _ _ _ h => h) (yields_row (by rfl) 28 (.tmp 2) (by rfl) w.heap.size 0 5 (by rfl) 28 (blindC n wd gp t sh) (0, 0) _ (fun _ h => h.1) Try.underlying28 rfl info_blind (blind_fits _ _ _ _ _) (blindC n wd gp t sh) (blind_all _ _ _ _ _)) hHeld ?_
  simp only [List.setIfInBounds_toArray, List.set_cons_zero, List.set_cons_succ]
  refine take_op (i := 1) (d := 8) (v := ?_) rfl rfl (by kernel_rfl) (by kernel_rfl) (by kernel_rfl) (fun _ _ _ h => h) (Or.inl ⟨by rfl, ?hy1u3⟩) hHeld ?rest1u3
  case hy1u3 =>
    intro w' hS'
    go_simp
    try with_reducible rfl
  simp only [List.setIfInBounds_toArray, List.set_cons_zero, List.set_cons_succ]
  refine wpAnyH_ready (rs := [2]) (by kernel_rfl) (by simp) ?_
  refine AllReadyH.cons rfl (fun K hK => ?_) AllReadyH.nil
  go_simp
  refine (isTilt_is h _ Hi.out _).mono ?_
  rintro e w' ⟨rfl, rfl⟩
  refine hK.out _ _ (hHeld) (fun hHeld2 => ?_)
  clear hK K
  replace hHeld := hHeld2
  clear hHeld2
  refine wpAnyH_ready (rs := [3]) (by kernel_rfl) (by simp) ?_
  refine AllReadyH.cons rfl (fun K hK => ?_) AllReadyH.nil
  go_simp
  refine (checkBlind_is n wd gp t sh T0 T1 fine c Hc.out _).mono ?_
  rintro e W1 ⟨rfl, hb1⟩
  refine hK.out _ _ (⟨below_row hb1 hHeld.1, below_row hb1 hHeld.2.1, hHeld.2.2.trans (hb1.mono hHeld.2.2.size)⟩) (fun hHeld2 => ?_)
  clear hK K
  replace hHeld := hHeld2
  clear hHeld2
  refine take_op (i := 4) (d := 6) (v := ?_) rfl rfl (by kernel_rfl) (by kernel_rfl) (by kernel_rfl) (fun _ _ _ h => h) (Or.inl ⟨by rfl, ?hy4u4⟩) hHeld ?rest4u4
  case hy4u4 =>
    intro w' hS'
    go_simp
    try with_reducible rfl
  simp only [List.setIfInBounds_toArray, List.set_cons_zero, List.set_cons_succ]
  refine wpAnyH_done (by kernel_rfl) ?_ _
  obtain ⟨hx0, hx1, hbx⟩ := hHeld
  have H0 := Lib.hid hx0
  have H1 := Lib.hid hx1
  clear hx0 hx1 h0 h1
  go_wp2_with (refine wpList_store_part rfl 28 _ _ rfl g1 0 (blindC 0 0 0 0 0) rfl rfl 28 _ H1.out (by kernel_rfl) (Nat.le_refl _) (blind_one _ _ _ _ _) ?_; rw [laid_all3 _ _ (by rfl)])
  refine bodyPost_ret (results_blind rfl _ _ g1 0 0 0 0 0 rfl (setRow_heap _ _ _ _ _ _ H1.out)) rfl ?_
  exact ⟨rfl, below_setRow hbx hlt _⟩

theorem part_fin {sh : Nat} (h : sh ≤ 1065353216 ∨ sh = 2147483648) : fin32 sh = true := by
  rcases h with h | rfl
  · exact fin_of_lt (by omega)
  · decide +kernel

end Go.Proofs.Ytdccmdcgbembpaa

namespace Go.Proofs.Ytdccmdcgbembpaa
open Go.ChangeShapes Go.WideShapes Go.ChangeAt Go.RowKit Go.Deep Go.Joins

set_option maxRecDepth 100000 in
set_option maxHeartbeats 1000000 in
theorem implPassFor_yes (n : Int) (wd gp : Nat) (t : Int) (sh : Nat) (bw : BlWf n wd gp t sh) (h : Int) (hk : okBl n wd gp t sh = true) (hi : inI 1 64 h = true) (w : World) :
    Calls Try.prog 20 #[.agg (blindC n wd gp t sh), .int .i64 h] w fun e w' => e = .returned (.tuple #[.float .f32 (pasB wd gp t sh h), .int .i64 0]) ∧ Below w.heap.size w w' := by
  obtain ⟨T0, T1⟩ := blwf_t bw
  obtain ⟨N0, N1⟩ := blwf_n bw
  obtain ⟨h0, h1⟩ := inI_get hi
  have OK := blok_of bw hk
  have Hc : Hid (codeC (okBl n wd gp t sh) true = 0) := by rw [hk]; rfl
  have Hi := Lib.hid hi
  have HC := Lib.hid (And.intro (fun w => passer_any n wd gp t sh OK w) (fun g1 g2 w c1 c2 => passes_call n wd gp t sh OK g1 g2 h h0 h1 w c1 c2))
  clear OK h0 h1 hk hi bw
  go_enter Try.func20, Try.ntmps20
  go_wp2
  refine wp_region_held_drew (S := (fun W => W.heap[w.heap.size]? = some (.cells (blindC n wd gp t sh) 28 (0, 0)) ∧ Below w.heap.size w W)) (by kernel_rfl) ⟨heap_alloc_new _ _, ((Below.refl _ _).alloc (Nat.le_refl _) _).drew⟩ (fun hHeld => ?_)
  refine take_op (i := 0) (d := 7) (v := .agg (blindC n wd gp t sh)) rfl rfl (by kernel_rfl) (by kernel_rfl) (by kernel_rfl) (fun _ _ _ h => h) (yields_row (by rfl) 28 (.tmp 2) (by rfl) w.heap.size 0 5 (by rfl) 28 (blindC n wd gp t sh) (0, 0) _ (fun _ h => h.1) Try.underlying28 rfl info_blind (blind_fits _ _ _ _ _) (blindC n wd gp t sh) (blind_all _ _ _ _ _)) hHeld ?_
  simp only [List.setIfInBounds_toArray, List.set_cons_zero, List.set_cons_succ]
  refine take_op (i := 1) (d := 8) (v := ?_) rfl rfl (by kernel_rfl) (by kernel_rfl) (by kernel_rfl) (fun _ _ _ h => h) (Or.inl ⟨by rfl, ?hy1u1⟩) hHeld ?rest1u1
  case hy1u1 =>
    intro w' hS'
    go_simp
    try with_reducible rfl
  simp only [List.setIfInBounds_toArray, List.set_cons_zero, List.set_cons_succ]
  refine wpAnyH_ready (rs := [2]) (by kernel_rfl) (by simp) ?_
  refine AllReadyH.cons rfl (fun K hK => ?_) AllReadyH.nil
  go_simp
  refine (isHeight_is h _ Hi.out _).mono ?_
  rintro e w' ⟨rfl, rfl⟩
  refine hK.out _ _ (hHeld) (fun hHeld2 => ?_)
  clear hK K
  replace hHeld := hHeld2
  clear hHeld2
  refine wpAnyH_ready (rs := [3]) (by kernel_rfl) (by simp) ?_
  refine AllReadyH.cons rfl (fun K hK => ?_) AllReadyH.nil
  go_simp
  refine (checkBlind_is n wd gp t sh T0 T1 true 0 Hc.out _).mono ?_
  rintro e W1 ⟨rfl, hb1⟩
  refine hK.out _ _ (⟨below_row hb1 hHeld.1, hHeld.2.trans (hb1.mono hHeld.2.size)⟩) (fun hHeld2 => ?_)
  clear hK K
  replace hHeld := hHeld2
  clear hHeld2
  refine take_op (i := 4) (d := 6) (v := ?_) rfl rfl (by kernel_rfl) (by kernel_rfl) (by kernel_rfl) (fun _ _ _ h => h) (Or.inl ⟨by rfl, ?hy4u2⟩) hHeld ?rest4u2
  case hy4u2 =>
    intro w' hS'
    go_simp
    try with_reducible rfl
  simp only [List.setIfInBounds_toArray, List.set_cons_zero, List.set_cons_succ]
  refine wpAnyH_done (by kernel_rfl) ?_ _
  obtain ⟨h0, hb⟩ := hHeld
  have H0 := Lib.hid h0
  clear h0
  go_wp2_with (first | (refine wpList_load_part rfl 28 _ rfl w.heap.size 0 5 rfl 28 (blindC n wd gp t sh) (0, 0) _ H0.out Try.underlying28 rfl info_blind (blind_fits _ _ _ _ _) _ (blind_all _ _ _ _ _) ?_) | (go_at_call 31; refine (HC.out.1 _).mono ?_; rintro e W2 ⟨⟨v, rfl, g1, g2, rfl, c1, c2⟩, hb2⟩; replace hb := hb.trans (hb2.mono hb.size); have C1 := Lib.hid c1; have C2 := Lib.hid c2; clear c1 c2 hb2) | (go_at_call 54; refine (HC.out.2 g1 g2 _ C1.out C2.out).mono ?_; rintro e W3 ⟨rfl, hb3⟩; replace hb := hb.trans (hb3.mono hb.size); clear hb3))
  go_ret2
  exact ⟨rfl, hb⟩

set_option maxRecDepth 100000 in
set_option maxHeartbeats 1000000 in
theorem implPassFor_no (n : Int) (wd gp : Nat) (t : Int) (sh : Nat) (bw : BlWf n wd gp t sh) (h : Int) (hk : ¬ (okBl n wd gp t sh = true ∧ inI 1 64 h = true)) (w : World) :
    Calls Try.prog 20 #[.agg (blindC n wd gp t sh), .int .i64 h] w fun e w' => e = .returned (.tuple #[.float .f32 0, .int .i64 (codeC (okBl n wd gp t sh) (inI 1 64 h))]) ∧ Below w.heap.size w w' := by
  obtain ⟨T0, T1⟩ := blwf_t bw
  obtain ⟨N0, N1⟩ := blwf_n bw
  have hne := codeC_ne hk
  generalize hf : inI 1 64 h = fine at *
  generalize hc : codeC (okBl n wd gp t sh) fine = c at *
  have Hc := Lib.hid hc
  have Hi := Lib.hid hf
  have hne' : (c != 0) = true := bne_iff_ne.2 hne
  clear hk hc hf hne bw
  go_enter Try.func20, Try.ntmps20
  go_wp2
  refine wp_region_held_drew (S := (fun W => W.heap[w.heap.size]? = some (.cells (blindC n wd gp t sh) 28 (0, 0)) ∧ Below w.heap.size w W)) (by kernel_rfl) ⟨heap_alloc_new _ _, ((Below.refl _ _).alloc (Nat.le_refl _) _).drew⟩ (fun hHeld => ?_)
  refine take_op (i := 0) (d := 7) (v := .agg (blindC n wd gp t sh)) rfl rfl (by kernel_rfl) (by kernel_rfl) (by kernel_rfl) (fun _ _ _ h => h) (yields_row (by rfl) 28 (.tmp 2) (by rfl) w.heap.size 0 5 (by rfl) 28 (blindC n wd gp t sh) (0, 0) _ (fun _ h => h.1) Try.underlying28 rfl info_blind (blind_fits _ _ _ _ _) (blindC n wd gp t sh) (blind_all _ _ _ _ _)) hHeld ?_
  simp only [List.setIfInBounds_toArray, List.set_cons_zero, List.set_cons_succ]
  refine take_op (i := 1) (d := 8) (v := ?_) rfl rfl (by kernel_rfl) (by kernel_rfl) (by kernel_rfl) (fun _ _ _ h => h) (Or.inl ⟨by rfl, ?hy1u3⟩) hHeld ?rest1u3
  case hy1u3 =>
    intro w' hS'
    go_simp
    try with_reducible rfl
  simp only [List.setIfInBounds_toArray, List.set_cons_zero, List.set_cons_succ]
  refine wpAnyH_ready (rs := [2]) (by kernel_rfl) (by simp) ?_
  refine AllReadyH.cons rfl (fun K hK => ?_) AllReadyH.nil
  go_simp
  refine (isHeight_is h _ Hi.out _).mono ?_
  rintro e w' ⟨rfl, rfl⟩
  refine hK.out _ _ (hHeld) (fun hHeld2 => ?_)
  clear hK K
  replace hHeld := hHeld2
  clear hHeld2
  refine wpAnyH_ready (rs := [3]) (by kernel_rfl) (by simp) ?_
  refine AllReadyH.cons rfl (fun K hK => ?_) AllReadyH.nil
  go_simp
  refine (checkBlind_is n wd gp t sh T0 T1 fine c Hc.out _).mono ?_
  rintro e W1 ⟨rfl, hb1⟩
  refine hK.out _ _ (⟨below_row hb1 hHeld.1, hHeld.2.trans (hb1.mono hHeld.2.size)⟩) (fun hHeld2 => ?_)
  clear hK K
  replace hHeld := hHeld2
  clear hHeld2
  refine take_op (i := 4) (d := 6) (v := ?_) rfl rfl (by kernel_rfl) (by kernel_rfl) (by kernel_rfl) (fun _ _ _ h => h) (Or.inl ⟨by rfl, ?hy4u4⟩) hHeld ?rest4u4
  case hy4u4 =>
    intro w' hS'
    go_simp
    try with_reducible rfl
  simp only [List.setIfInBounds_toArray, List.set_cons_zero, List.set_cons_succ]
  refine wpAnyH_done (by kernel_rfl) ?_ _
  obtain ⟨h0, hb⟩ := hHeld
  clear h0
  go_wp2
  go_ret2
  exact ⟨rfl, hb⟩

end Go.Proofs.Ytdccmdcgbembpaa

namespace Go.Proofs.Ytdccmdcgbembpaa
open Go.ChangeShapes Go.WideShapes Go.ChangeAt Go.RowKit Go.Deep Go.Joins

set_option maxRecDepth 100000 in
set_option maxHeartbeats 1000000 in
theorem implOpenFor_yes (n : Int) (wd gp : Nat) (t : Int) (sh : Nat) (bw : BlWf n wd gp t sh) (h : Int) (hk : okBl n wd gp t sh = true) (hi : inI 1 64 h = true) (w : World) :
    Calls Try.prog 21 #[.agg (blindC n wd gp t sh), .int .i64 h] w fun e w' => e = .returned (.tuple #[.float .f32 (opnB wd gp t h), .int .i64 0]) ∧ Below w.heap.size w w' := by
  obtain ⟨T0, T1⟩ := blwf_t bw
  obtain ⟨N0, N1⟩ := blwf_n bw
  obtain ⟨h0, h1⟩ := inI_get hi
  have OK := blok_of bw hk
  have Hc : Hid (codeC (okBl n wd gp t sh) true = 0) := by rw [hk]; rfl
  have Hi := Lib.hid hi
  have HC := Lib.hid (fun w => openAt_any n wd gp t sh OK h h0 h1 w)
  clear OK h0 h1 hk hi bw
  go_enter Try.func21, Try.ntmps21
  go_wp2
  refine wp_region_held_drew (S := (fun W => W.heap[w.heap.size]? = some (.cells (blindC n wd gp t sh) 28 (0, 0)) ∧ Below w.heap.size w W)) (by kernel_rfl) ⟨heap_alloc_new _ _, ((Below.refl _ _).alloc (Nat.le_refl _) _).drew⟩ (fun hHeld => ?_)
  refine take_op (i := 0) (d := 7) (v := .agg (blindC n wd gp t sh)) rfl rfl (by kernel_rfl) (by kernel_rfl) (by kernel_rfl) (fun _ _ _ h => h) (yields_row (by rfl) 28 (.tmp 2) (by rfl) w.heap.size 0 5 (by rfl) 28 (blindC n wd gp t sh) (0, 0) _ (fun _ h => h.1) Try.underlying28 rfl info_blind (blind_fits _ _ _ _ _) (blindC n wd gp t sh) (blind_all _ _ _ _ _)) hHeld ?_
  simp only [List.setIfInBounds_toArray, List.set_cons_zero, List.set_cons_succ]
  refine take_op (i := 1) (d := 8) (v := ?_) rfl rfl (by kernel_rfl) (by kernel_rfl) (by kernel_rfl) (fun _ _ _ h => h) (Or.inl ⟨by rfl, ?hy1u5⟩) hHeld ?rest1u5
  case hy1u5 =>
    intro w' hS'
    go_simp
    try with_reducible rfl
  simp only [List.setIfInBounds_toArray, List.set_cons_zero, List.set_cons_succ]
  refine wpAnyH_ready (rs := [2]) (by kernel_rfl) (by simp) ?_
  refine AllReadyH.cons rfl (fun K hK => ?_) AllReadyH.nil
  go_simp
  refine (isHeight_is h _ Hi.out _).mono ?_
  rintro e w' ⟨rfl, rfl⟩
  refine hK.out _ _ (hHeld) (fun hHeld2 => ?_)
  clear hK K
  replace hHeld := hHeld2
  clear hHeld2
  refine wpAnyH_ready (rs := [3]) (by kernel_rfl) (by simp) ?_
  refine AllReadyH.cons rfl (fun K hK => ?_) AllReadyH.nil
  go_simp
  refine (checkBlind_is n wd gp t sh T0 T1 true 0 Hc.out _).mono ?_
  rintro e W1 ⟨rfl, hb1⟩
  refine hK.out _ _ (⟨below_row hb1 hHeld.1, hHeld.2.trans (hb1.mono hHeld.2.size)⟩) (fun hHeld2 => ?_)
  clear hK K
  replace hHeld := hHeld2
  clear hHeld2
  refine take_op (i := 4) (d := 6) (v := ?_) rfl rfl (by kernel_rfl) (by kernel_rfl) (by kernel_rfl) (fun _ _ _ h => h) (Or.inl ⟨by rfl, ?hy4u6⟩) hHeld ?rest4u6
  case hy4u6 =>
    intro w' hS'
    go_simp
    try with_reducible rfl
  simp only [List.setIfInBounds_toArray, List.set_cons_zero, List.set_cons_succ]
  refine wpAnyH_done (by kernel_rfl) ?_ _
  obtain ⟨h0, hb⟩ := hHeld
  have H0 := Lib.hid h0
  clear h0
  go_wp2_with (first | (refine wpList_load_part rfl 28 _ rfl w.heap.size 0 5 rfl 28 (blindC n wd gp t sh) (0, 0) _ H0.out Try.underlying28 rfl info_blind (blind_fits _ _ _ _ _) _ (blind_all _ _ _ _ _) ?_) | (go_at_call 40; refine (HC.out _).mono ?_; rintro e W1 ⟨rfl, hb1⟩; replace H0 := Lib.hid (below_row hb1 H0.out); replace hb := hb.trans (hb1.mono hb.size); clear hb1))
  go_ret2
  exact ⟨rfl, hb⟩

set_option maxRecDepth 100000 in
set_option maxHeartbeats 1000000 in
theorem implOpenFor_no (n : Int) (wd gp : Nat) (t : Int) (sh : Nat) (bw : BlWf n wd gp t sh) (h : Int) (hk : ¬ (okBl n wd gp t sh = true ∧ inI 1 64 h = true)) (w : World) :
    Calls Try.prog 21 #[.agg (blindC n wd gp t sh), .int .i64 h] w fun e w' => e = .returned (.tuple #[.float .f32 0, .int .i64 (codeC (okBl n wd gp t sh) (inI 1 64 h))]) ∧ Below w.heap.size w w' := by
  obtain ⟨T0, T1⟩ := blwf_t bw
  obtain ⟨N0, N1⟩ := blwf_n bw
  have hne := codeC_ne hk
  generalize hf : inI 1 64 h = fine at *
  generalize hc : codeC (okBl n wd gp t sh) fine = c at *
  have Hc := Lib.hid hc
  have Hi := Lib.hid hf
  have hne' : (c != 0) = true := bne_iff_ne.2 hne
  clear hk hc hf hne bw
  go_enter Try.func21, Try.ntmps21
  go_wp2
  refine wp_region_held_drew (S := (fun W => W.heap[w.heap.size]? = some (.cells (blindC n wd gp t sh) 28 (0, 0)) ∧ Below w.heap.size w W)) (by kernel_rfl) ⟨heap_alloc_new _ _, ((Below.refl _ _).alloc (Nat.le_refl _) _).drew⟩ (fun hHeld => ?_)
  refine take_op (i := 0) (d := 7) (v := .agg (blindC n wd gp t sh)) rfl rfl (by kernel_rfl) (by kernel_rfl) (by kernel_rfl) (fun _ _ _ h => h) (yields_row (by rfl) 28 (.tmp 2) (by rfl) w.heap.size 0 5 (by rfl) 28 (blindC n wd gp t sh) (0, 0) _ (fun _ h => h.1) Try.underlying28 rfl info_blind (blind_fits _ _ _ _ _) (blindC n wd gp t sh) (blind_all _ _ _ _ _)) hHeld ?_
  simp only [List.setIfInBounds_toArray, List.set_cons_zero, List.set_cons_succ]
  refine take_op (i := 1) (d := 8) (v := ?_) rfl rfl (by kernel_rfl) (by kernel_rfl) (by kernel_rfl) (fun _ _ _ h => h) (Or.inl ⟨by rfl, ?hy1u7⟩) hHeld ?rest1u7
  case hy1u7 =>
    intro w' hS'
    go_simp
    try with_reducible rfl
  simp only [List.setIfInBounds_toArray, List.set_cons_zero, List.set_cons_succ]
  refine wpAnyH_ready (rs := [2]) (by kernel_rfl) (by simp) ?_
  refine AllReadyH.cons rfl (fun K hK => ?_) AllReadyH.nil
  go_simp
  refine (isHeight_is h _ Hi.out _).mono ?_
  rintro e w' ⟨rfl, rfl⟩
  refine hK.out _ _ (hHeld) (fun hHeld2 => ?_)
  clear hK K
  replace hHeld := hHeld2
  clear hHeld2
  refine wpAnyH_ready (rs := [3]) (by kernel_rfl) (by simp) ?_
  refine AllReadyH.cons rfl (fun K hK => ?_) AllReadyH.nil
  go_simp
  refine (checkBlind_is n wd gp t sh T0 T1 fine c Hc.out _).mono ?_
  rintro e W1 ⟨rfl, hb1⟩
  refine hK.out _ _ (⟨below_row hb1 hHeld.1, hHeld.2.trans (hb1.mono hHeld.2.size)⟩) (fun hHeld2 => ?_)
  clear hK K
  replace hHeld := hHeld2
  clear hHeld2
  refine take_op (i := 4) (d := 6) (v := ?_) rfl rfl (by kernel_rfl) (by kernel_rfl) (by kernel_rfl) (fun _ _ _ h => h) (Or.inl ⟨by rfl, ?hy4u8⟩) hHeld ?rest4u8
  case hy4u8 =>
    intro w' hS'
    go_simp
    try with_reducible rfl
  simp only [List.setIfInBounds_toArray, List.set_cons_zero, List.set_cons_succ]
  refine wpAnyH_done (by kernel_rfl) ?_ _
  obtain ⟨h0, hb⟩ := hHeld
  clear h0
  go_wp2
  go_ret2
  exact ⟨rfl, hb⟩

end Go.Proofs.Ytdccmdcgbembpaa
