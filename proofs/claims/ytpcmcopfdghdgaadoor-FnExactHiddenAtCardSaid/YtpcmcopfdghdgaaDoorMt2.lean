/-
  ShA, Add, FallN, ShadeN, Ok, Valid, Open, LawValid, Fns, Up, Angle, Ground, Fall, FallOn, AwOk, ShF, Errs, Code, ShC, TrC.
-/
import Derived.Test.YtpcmcopfdghdgaaDoorMt1
import Derived.Laws.Tables
import Derived.Test.YtpcmcopfdghdgaaDoorTake
import Derived.Great.BuildSlice
import Derived.Test.YtpcmcopfdghdgaaDoorMul
import Derived.Test.YtpcmcopfdghdgaaDoorPlain
import Derived.Test.YtpcmcopfdghdgaaDoorRows
import Derived.WalkKit
import Derived.WalkSpells
import Derived.WalkLawsBesides
import Derived.Lib.Hide
import Derived.Laws.EntriesVeiled
import Derived.Test.YtpcmcopfdghdgaaDoorSame
import Derived.Test.YtpcmcopfdghdgaaDoorSgn
import Derived.Stop.LaidTwo
import Derived.LaidEql
import Derived.LaidMore
import Derived.LaidHandle
import Derived.ProofKit
import Derived.OpenShut
import Derived.RowKitTokens
import Derived.Test.YtpcmcopfdghdgaaDoorRow
import Derived.Test.YtpcmcopfdghdgaaDoorChecked
import Derived.Stop.Asserts
import Derived.Elder7

namespace Go.Proofs.YtpcmcopfdghdgaaDoor
open Go.ChangeShapes Go.WideShapes Go.ChangeAt Go.RowKit Go.Deep Go.Joins

/-- A sun and a facing, and an awning besides, as cells. -/
def fsC (hs ts : List Int) (fc : Int) : Array Value := sunC hs ts ++ #[.int .i64 fc]

def shC (hs ts : List Int) (fc : Int) (o dr gp tl : Nat) : Array Value := fsC hs ts fc ++ awC o dr gp tl

theorem fsC_size (hs ts : List Int) (fc : Int) (h : hs.length = 24) (t : ts.length = 24) : (fsC hs ts fc).size = 49 := by simp [fsC, sunC_size _ _ h t]

theorem shC_size (hs ts : List Int) (fc : Int) (o dr gp tl : Nat) (h : hs.length = 24) (t : ts.length = 24) : (shC hs ts fc o dr gp tl).size = 53 := by simp [shC, fsC_size _ _ fc h t, awC]

theorem fs_fits (hs ts : List Int) (fc : Int) (h : hs.length = 24) (t : ts.length = 24) : 0 + 49 ≤ (fsC hs ts fc).size := by rw [fsC_size _ _ _ h t]; decide

theorem fs_fits48 (hs ts : List Int) (fc : Int) (h : hs.length = 24) (t : ts.length = 24) : 0 + 48 ≤ (fsC hs ts fc).size := by rw [fsC_size _ _ _ h t]; decide

theorem sh_fits (hs ts : List Int) (fc : Int) (o dr gp tl : Nat) (h : hs.length = 24) (t : ts.length = 24) : 0 + 53 ≤ (shC hs ts fc o dr gp tl).size := by rw [shC_size _ _ _ _ _ _ _ h t]; decide

theorem sh_fits49 (hs ts : List Int) (fc : Int) (o dr gp tl : Nat) (h : hs.length = 24) (t : ts.length = 24) : 0 + 49 ≤ (shC hs ts fc o dr gp tl).size := by rw [shC_size _ _ _ _ _ _ _ h t]; decide

theorem extract_left (a b : Array Value) (n : Nat) (h : a.size = n) : (a ++ b).extract 0 (0 + n) = a := by
  subst h; simp

theorem fs_all (hs ts : List Int) (fc : Int) (h : hs.length = 24) (t : ts.length = 24) : (fsC hs ts fc).extract 0 (0 + 49) = fsC hs ts fc := by
  rw [Nat.zero_add, ← fsC_size hs ts fc h t, Array.extract_size]

theorem fs_sun (hs ts : List Int) (fc : Int) (h : hs.length = 24) (t : ts.length = 24) : (fsC hs ts fc).extract 0 (0 + 48) = sunC hs ts := extract_left _ _ _ (sunC_size _ _ h t)

theorem sh_all (hs ts : List Int) (fc : Int) (o dr gp tl : Nat) (h : hs.length = 24) (t : ts.length = 24) : (shC hs ts fc o dr gp tl).extract 0 (0 + 53) = shC hs ts fc o dr gp tl := by
  rw [Nat.zero_add, ← shC_size hs ts fc o dr gp tl h t, Array.extract_size]

theorem sh_fs (hs ts : List Int) (fc : Int) (o dr gp tl : Nat) (h : hs.length = 24) (t : ts.length = 24) : (shC hs ts fc o dr gp tl).extract 0 (0 + 49) = fsC hs ts fc := extract_left _ _ _ (fsC_size _ _ _ h t)

theorem sunC_one (hs ts : List Int) : ∀ v ∈ sunC hs ts, v.oneCell' = true := i16s_one _

theorem fs_one (hs ts : List Int) (fc : Int) : ∀ v ∈ fsC hs ts fc, v.oneCell' = true := by
  intro v hv
  rcases Array.mem_append.1 hv with h | h
  · exact sunC_one _ _ v h
  · simp only [List.mem_toArray, List.mem_cons, List.not_mem_nil, or_false] at h
    subst h; rfl

theorem sh_one (hs ts : List Int) (fc : Int) (o dr gp tl : Nat) : ∀ v ∈ shC hs ts fc o dr gp tl, v.oneCell' = true := by
  intro v hv
  rcases Array.mem_append.1 hv with h | h
  · exact fs_one _ _ _ v h
  · exact aw_one _ _ _ _ v h

theorem fs_48 (hs ts : List Int) (fc : Int) (h : hs.length = 24) (t : ts.length = 24) : (fsC hs ts fc)[48]? = some (.int .i64 fc) := by
  have e : (sunC hs ts).size = 48 := sunC_size _ _ h t
  unfold fsC
  rw [Array.getElem?_append_right (by omega), e]; rfl

theorem fs_cell {hs ts : List Int} {fc : Int} {W : World} {b : Nat} {T : TypeId} {fr : Nat × Nat} (h : hs.length = 24) (t : ts.length = 24) (hg : W.heap[b]? = some (.cells (fsC hs ts fc) T fr)) : W.cell? ⟨b, 48, none⟩ = some (.int .i64 fc) := by
  rw [cell_of_row W _ _ _ _ _ hg, fs_48 _ _ _ h t]

theorem sh_ge (hs ts : List Int) (fc : Int) (o dr gp tl : Nat) (h : hs.length = 24) (t : ts.length = 24) (k : Nat) : (shC hs ts fc o dr gp tl)[49 + k]? = (awC o dr gp tl)[k]? := by
  have e : (fsC hs ts fc).size = 49 := fsC_size _ _ _ h t
  unfold shC
  rw [Array.getElem?_append_right (by omega), e, Nat.add_sub_cancel_left]

theorem sh_cells {hs ts : List Int} {fc : Int} {o dr gp tl : Nat} {W : World} {b : Nat} {T : TypeId} {fr : Nat × Nat} (h : hs.length = 24) (t : ts.length = 24) (hg : W.heap[b]? = some (.cells (shC hs ts fc o dr gp tl) T fr)) :
    W.cell? ⟨b, 49, none⟩ = some (.float .f32 o) ∧ W.cell? ⟨b, 50, none⟩ = some (.float .f32 dr) ∧ W.cell? ⟨b, 51, none⟩ = some (.float .f32 gp) ∧ W.cell? ⟨b, 52, none⟩ = some (.float .f32 tl) :=
  ⟨by rw [cell_of_row W _ _ _ _ _ hg]; exact sh_ge _ _ _ _ _ _ _ h t 0, by rw [cell_of_row W _ _ _ _ _ hg]; exact sh_ge _ _ _ _ _ _ _ h t 1, by rw [cell_of_row W _ _ _ _ _ hg]; exact sh_ge _ _ _ _ _ _ _ h t 2, by rw [cell_of_row W _ _ _ _ _ hg]; exact sh_ge _ _ _ _ _ _ _ h t 3⟩

theorem len24 {xs : List Int} (h : xs.length = 24) : ∃ a0 a1 a2 a3 a4 a5 a6 a7 a8 a9 b0 b1 b2 b3 b4 b5 b6 b7 b8 b9 c0 c1 c2 c3 : Int, xs = [a0, a1, a2, a3, a4, a5, a6, a7, a8, a9, b0, b1, b2, b3, b4, b5, b6, b7, b8, b9, c0, c1, c2, c3] := by
  match xs, h with
  | [a0, a1, a2, a3, a4, a5, a6, a7, a8, a9, b0, b1, b2, b3, b4, b5, b6, b7, b8, b9, c0, c1, c2, c3], _ => exact ⟨_, _, _, _, _, _, _, _, _, _, _, _, _, _, _, _, _, _, _, _, _, _, _, _, rfl⟩

theorem wpList_buildL {P : Program} {ops : Array Oper} {rest : List Oper} {o : Oper} {a : Act} {w : World} {Q : Exit → Act → World → Prop} (hg : o.guard = none) (t : TypeId) (parts : Array (Nat × Operand)) (ho : o.op = .build t parts)
    (d : Option Tmp) (hd : o.dst = d) (l : List (Nat × Value)) (hp : parts.toList.map (fun x => (x.1, a.eval x.2)) = l) (cells : Array Value) (hf : P.built t l = some cells)
    (h : wpList P ops Q rest (a.put d (.agg cells)) w) : wpList P ops Q (o :: rest) a w := by
  refine wpList_buildTo hg t parts ho d hd cells ?_ h
  rw [Array.toList_map, ← hf, ← hp]

end Go.Proofs.YtpcmcopfdghdgaaDoor

namespace Go.Proofs.YtpcmcopfdghdgaaDoor
open Go

/-- No NaN, and no minus sign. -/
def pos32 (x : Nat) : Bool := match Ieee.single.read x with | .number s _ _ => !s | .infinity s => !s | .nan _ _ => false

theorem pos_fin {x : Nat} (h : pos32 x = true) : fin32 x = true := by
  unfold pos32 at h
  unfold fin32
  cases hr : Ieee.single.read x with
  | number s m e => rfl
  | infinity s => rfl
  | nan s f => rw [hr] at h; cases h

theorem pos_word (k : Nat) (h : k ≤ Ieee.single.infRung) : pos32 (Ieee.single.word false k) = true := by
  have hi : Ieee.single.infRung = 2139095040 := by decide
  have hw : Ieee.single.signWeight = 2147483648 := by decide
  rw [hi] at h
  unfold pos32 Ieee.Format.read Ieee.Format.word
  simp only [hi, hw, Bool.false_eq_true, if_false]
  have hk : k % 2147483648 = k := Nat.mod_eq_of_lt (by omega)
  have hd : k / 2147483648 = 0 := Nat.div_eq_of_lt (by omega)
  rw [hk, hd]
  by_cases c1 : k < Ieee.single.binade
  · rw [if_pos c1]; rfl
  · rw [if_neg c1]
    by_cases c2 : k < 2139095040
    · rw [if_pos c2]; rfl
    · rw [if_neg c2, if_pos (by omega)]; rfl

theorem pos_nearest (m : Nat) (e : Int) : pos32 (Ieee.single.nearest false m e) = true := by
  unfold Ieee.Format.nearest
  split
  · exact pos_word 0 (Nat.zero_le _)
  · exact pos_word _ (Nat.min_le_right _ _)

theorem signed_nonneg (m u : Nat) : 0 ≤ Ieee.signed false m u := by
  unfold Ieee.signed
  rw [if_neg (by decide)]
  exact Int.natCast_nonneg _

/-- A sum of such numbers is made without a draw, and is one again. -/
theorem add_ok {x y : Nat} (hx : pos32 x = true) (hy : pos32 y = true) : floatBits .add .f32 x y = some (fadd x y) ∧ pos32 (fadd x y) = true := by
  suffices h : ∃ d, (Ieee.single.read x).sum (Ieee.single.read y) = some d ∧ pos32 (Ieee.single.write d) = true by
    obtain ⟨d, h1, h2⟩ := h
    have h3 : Ieee.single.add x y = some (Ieee.single.write d) := by unfold Ieee.Format.add; rw [h1]; rfl
    have e1 : fadd x y = Ieee.single.write d := by unfold fadd; rw [h3]; rfl
    rw [e1]; exact ⟨h3, h2⟩
  unfold pos32 at hx hy
  cases hr : Ieee.single.read x with
  | nan s f => rw [hr] at hx; cases hx
  | infinity s =>
    rw [hr] at hx
    cases s
    · cases hq : Ieee.single.read y with
      | nan t f => rw [hq] at hy; cases hy
      | infinity t =>
        rw [hq] at hy
        cases t
        · exact ⟨.infinity false, rfl, by decide⟩
        · cases hy
      | number t n j => exact ⟨.infinity false, rfl, by decide⟩
    · cases hx
  | number s m e =>
    rw [hr] at hx
    cases s
    · cases hq : Ieee.single.read y with
      | nan t f => rw [hq] at hy; cases hy
      | infinity t =>
        rw [hq] at hy
        cases t
        · exact ⟨.infinity false, rfl, by decide⟩
        · cases hy
      | number t n j =>
        rw [hq] at hy
        cases t
        · refine ⟨_, rfl, ?_⟩
          have h1 := signed_nonneg m (e - min e j).toNat
          have h2 := signed_nonneg n (j - min e j).toNat
          have h3 : 0 ≤ Ieee.signed false m (e - min e j).toNat + Ieee.signed false n (j - min e j).toNat := Int.add_nonneg h1 h2
          generalize Ieee.signed false m (e - min e j).toNat + Ieee.signed false n (j - min e j).toNat = tot at h3 ⊢
          have hneg : (if tot = 0 then (false && false) else decide (tot < 0)) = false := by
            split
            · rfl
            · exact decide_eq_false (by omega)
          rw [hneg]
          exact pos_nearest _ _
        · cases hy
    · cases hx

/-- The sum of the first numbers of a row, beginning with 0. -/
def sumTo (f : Nat → Nat) (k : Nat) : Nat := (List.range k).foldl (fun s h => fadd s (f h)) 0
theorem sumTo_succ (f : Nat → Nat) (k : Nat) : sumTo f (k + 1) = fadd (sumTo f k) (f k) := by
  simp [sumTo, List.range_succ]
theorem sumTo_pos (f : Nat → Nat) (n : Nat) (hf : ∀ k, k < n → pos32 (f k) = true) : ∀ k, k ≤ n → pos32 (sumTo f k) = true
  | 0, _ => by show pos32 0 = true; decide
  | k + 1, h => by rw [sumTo_succ]; exact (add_ok (sumTo_pos f n hf k (by omega)) (hf k (by omega))).2

theorem sineB_pos_nat : ∀ n : Nat, n < 65 → pos32 (sineB (n : Int)) = true := by decide +kernel
theorem groundB_pos (x : Int) (h : x ≤ 64) : pos32 (groundB x) = true := by
  unfold groundB
  split
  · rename_i h0
    obtain ⟨n, rfl⟩ := Int.eq_ofNat_of_zero_le (by omega : 0 ≤ x)
    exact sineB_pos_nat n (by omega)
  · decide

theorem litB_pos (l : Nat) : pos32 (litB l) = true := by
  unfold litB
  split
  · rename_i h
    have h' : (Ieee.single.read l).order (Ieee.single.read 0) = some .gt := h
    have hz : Ieee.single.read 0 = .number false 0 (-149) := by decide
    rw [hz] at h'
    unfold pos32
    cases hr : Ieee.single.read l with
    | nan s f => rw [hr] at h'; cases h'
    | infinity s => rw [hr] at h'; cases s <;> first | rfl | (simp [Ieee.Datum.order] at h')
    | number s m e =>
      rw [hr] at h'
      cases s
      · rfl
      · exfalso
        simp only [Ieee.Datum.order, Option.some.injEq] at h'
        have h1 : Ieee.signed true m (e - min e (-149)).toNat ≤ 0 := by
          unfold Ieee.signed
          rw [if_pos rfl]
          exact Int.neg_nonpos_of_nonneg (Int.natCast_nonneg _)
        have h2 : Ieee.signed false 0 ((-149 : Int) - min e (-149)).toNat = 0 := by simp [Ieee.signed]
        rw [h2] at h'
        have := Int.compare_eq_gt.1 h'
        omega
  · decide
theorem fallB_pos (x d : Int) : pos32 (fallB x d) = true := by
  unfold fallB
  split
  · exact litB_pos _
  · decide

end Go.Proofs.YtpcmcopfdghdgaaDoor

namespace Go.Proofs.YtpcmcopfdghdgaaDoor
open Go

theorem word_true (k : Nat) : Ieee.single.word true k = 2147483648 + Ieee.single.word false k := by
  unfold Ieee.Format.word
  have hw : Ieee.single.signWeight = 2147483648 := by decide
  simp [hw]
theorem nearest_true (m : Nat) (e : Int) : Ieee.single.nearest true m e = 2147483648 + Ieee.single.nearest false m e := by
  unfold Ieee.Format.nearest
  split
  · exact word_true _
  · exact word_true _
theorem cosB_pos_nat : ∀ n : Nat, n < 65 → cosB (n : Int) ≤ 1065353216 := by decide +kernel
theorem sineB_sgn_nat : ∀ n : Nat, n < 256 → sineB (n : Int) ≤ 1065353216 ∨ (2147483648 ≤ sineB (n : Int) ∧ sineB (n : Int) ≤ 2147483648 + 1065353216) := by decide +kernel
theorem cosB_sgn (a : Int) : cosB a ≤ 1065353216 ∨ (2147483648 ≤ cosB a ∧ cosB a ≤ 2147483648 + 1065353216) := by
  unfold cosB
  have h0 := angB_lo (a + 64)
  have h1 := angB_hi (a + 64)
  generalize angB (a + 64) = n at *
  obtain ⟨m, rfl⟩ := Int.eq_ofNat_of_zero_le h0
  exact sineB_sgn_nat m (by omega)
theorem read_neg_same {x : Nat} (hx : x < 2139095040) {m : Nat} {e : Int} (h : Ieee.single.read x = .number false m e) : Ieee.single.read (2147483648 + x) = .number true m e := by
  unfold Ieee.Format.read at h ⊢
  have hw : Ieee.single.signWeight = 2147483648 := by decide
  have hbi : Ieee.single.binade = 8388608 := by decide
  have hir : Ieee.single.infRung = 2139095040 := by decide
  simp only [hw, hbi, hir] at h ⊢
  have e1 : x % 2147483648 = x := Nat.mod_eq_of_lt (by omega)
  have e2 : (2147483648 + x) % 2147483648 = x := by omega
  rw [e1] at h
  rw [e2]
  have e3 : ¬ (2147483648 ≤ x) := by omega
  have e4 : 2147483648 ≤ 2147483648 + x := by omega
  by_cases h1 : x < 8388608
  · simp_all
    omega
  · have h2 : x < 2139095040 := hx
    simp_all
    rw [if_neg (by omega)]
    have h5 : (x / 2147483648 + 1) % 2 = 1 := by omega
    rw [h5]
    rfl
theorem fall_num (x d : Int) (h0 : 0 < x) (h1 : x ≤ 64) : num32 (fallB x d) = true := by
  unfold fallB
  rw [if_pos h0]
  have hl : num32 (fmul (cosB x) (cosB d)) = true := by
    obtain ⟨n, rfl⟩ := Int.eq_ofNat_of_zero_le (by omega : 0 ≤ x)
    have ha := cosB_pos_nat n (by omega)
    generalize cosB (n : Int) = a at *
    rcases cosB_sgn d with hb | ⟨hb0, hb1⟩
    · exact num_of_isNum (.inl (Nat.lt_of_le_of_lt (mul_le_one (x := a) (y := cosB d) (by omega) hb) (by omega)))
    · obtain ⟨b, hb⟩ : ∃ b, cosB d = 2147483648 + b := ⟨cosB d - 2147483648, by omega⟩
      rw [hb]
      have hbl : b ≤ 1065353216 := by omega
      obtain ⟨m, i, hm, _⟩ := read_pos (x := a) (by omega)
      obtain ⟨k, j, hk, _⟩ := read_pos (x := b) (by omega)
      have hk' := read_neg_same (x := b) (by omega) hk
      have e1 : fmul a b = Ieee.single.write (.number (false ^^ false) (m * k) (-149 + (i : Int) + (-149 + (j : Int)))) := by
        have h : Ieee.single.mul a b = some (Ieee.single.write (.number (false ^^ false) (m * k) (-149 + (i : Int) + (-149 + (j : Int))))) := by
          unfold Ieee.Format.mul
          rw [hm, hk]; rfl
        unfold fmul; rw [h]; rfl
      have e2 : fmul a (2147483648 + b) = Ieee.single.write (.number (false ^^ true) (m * k) (-149 + (i : Int) + (-149 + (j : Int)))) := by
        have h : Ieee.single.mul a (2147483648 + b) = some (Ieee.single.write (.number (false ^^ true) (m * k) (-149 + (i : Int) + (-149 + (j : Int))))) := by
          unfold Ieee.Format.mul
          rw [hm, hk']; rfl
        unfold fmul; rw [h]; rfl
      have e3 : fmul a (2147483648 + b) = 2147483648 + fmul a b := by
        rw [e1, e2]
        exact nearest_true _ _
      have h2 := mul_le_one (x := a) (y := b) (by omega) hbl
      rw [e3]
      exact num_of_isNum (.inr ⟨by omega, by omega⟩)
  unfold litB
  split
  · exact hl
  · decide

theorem fmul_zero {a : Nat} (ha : a < 2139095040) : fmul a 0 = 0 := rnd_exact (mul_rnd ha (y := 0) (by decide)).2 (by decide) (Nat.two_pow_pos _) (by rw [rv_zero]; simp)
theorem zero_fmul {a : Nat} (ha : a < 2139095040) : fmul 0 a = 0 := rnd_exact (mul_rnd (x := 0) (by decide) ha).2 (by decide) (Nat.two_pow_pos _) (by rw [rv_zero]; simp)
theorem mul_negR {a b : Nat} (ha : a < 2139095040) (hb : b < 2139095040) : fmul a (2147483648 + b) = 2147483648 + fmul a b := by
  obtain ⟨m, i, hm, _⟩ := read_pos (x := a) ha
  obtain ⟨k, j, hk, _⟩ := read_pos (x := b) hb
  have hk' := read_neg_same (x := b) hb hk
  have e1 : fmul a b = Ieee.single.write (.number (false ^^ false) (m * k) (-149 + (i : Int) + (-149 + (j : Int)))) := by
    have h : Ieee.single.mul a b = some (Ieee.single.write (.number (false ^^ false) (m * k) (-149 + (i : Int) + (-149 + (j : Int))))) := by
      unfold Ieee.Format.mul
      rw [hm, hk]; rfl
    unfold fmul; rw [h]; rfl
  have e2 : fmul a (2147483648 + b) = Ieee.single.write (.number (false ^^ true) (m * k) (-149 + (i : Int) + (-149 + (j : Int)))) := by
    have h : Ieee.single.mul a (2147483648 + b) = some (Ieee.single.write (.number (false ^^ true) (m * k) (-149 + (i : Int) + (-149 + (j : Int))))) := by
      unfold Ieee.Format.mul
      rw [hm, hk']; rfl
    unfold fmul; rw [h]; rfl
  rw [e1, e2]
  exact nearest_true _ _

theorem litB_word {p : Nat} (h0 : 0 < p) (h1 : p < 2139095040) : litB p = p := by
  unfold litB
  rw [order_pos h1 (by decide), if_pos]
  rw [Nat.compare_eq_gt.2 h0]
theorem litB_zero : litB 0 = 0 := by decide +kernel
theorem litB_under {r : Nat} (h : r < 2139095040) : litB (2147483648 + r) = 0 := by
  unfold litB
  rw [order_num (.inr ⟨by omega, by omega⟩) (.inl (by decide)), if_neg]
  intro h1
  injection h1 with h1
  have h2 := Int.compare_eq_gt.1 h1
  have h3 := sv_neg_le r
  have h4 : sv 0 = 0 := rfl
  omega

theorem sine_step_nat : ∀ n : Nat, n < 256 → sineB (n : Int) = 0 ∨ (1019794704 ≤ sineB (n : Int) ∧ sineB (n : Int) ≤ 1065353216) ∨ (2147483648 ≤ sineB (n : Int) ∧ sineB (n : Int) ≤ 2147483648 + 1065353216) := by decide +kernel
theorem cos_step (a : Int) : cosB a = 0 ∨ (1019794704 ≤ cosB a ∧ cosB a ≤ 1065353216) ∨ (2147483648 ≤ cosB a ∧ cosB a ≤ 2147483648 + 1065353216) := by
  unfold cosB
  have h0 := angB_lo (a + 64)
  have h1 := angB_hi (a + 64)
  generalize angB (a + 64) = n at *
  obtain ⟨m, rfl⟩ := Int.eq_ofNat_of_zero_le h0
  exact sine_step_nat m (by omega)
theorem least_light : fmul 1019794704 1019794704 = 975015322 := by decide +kernel

/-- Light on a window is 0, or not next to it, and at most 1. -/
theorem fall_rng (x d : Int) (h0 : 0 < x) (h1 : x ≤ 64) : fallB x d = 0 ∨ (975015322 ≤ fallB x d ∧ fallB x d ≤ 1065353216) := by
  unfold fallB
  rw [if_pos h0]
  have ha := cos_step x
  have hc : cosB x ≤ 1065353216 := by
    obtain ⟨n, rfl⟩ := Int.eq_ofNat_of_zero_le (by omega : 0 ≤ x)
    exact cosB_pos_nat n (by omega)
  have hb := cos_step d
  generalize cosB x = a at *
  generalize cosB d = b at *
  rcases hb with rfl | ⟨b0, b1⟩ | ⟨b0, b1⟩
  · rw [fmul_zero (by omega), litB_zero]; exact .inl rfl
  · rcases ha with rfl | ⟨a0, a1⟩ | ⟨a0, a1⟩
    · rw [zero_fmul (by omega), litB_zero]; exact .inl rfl
    · have m1 := mul_mono (x := 1019794704) (X := a) (y := 1019794704) (Y := b) (by omega) (by omega) a0 b0
      have m2 := mul_le_one (x := a) (y := b) (by omega) b1
      rw [least_light] at m1
      rw [litB_word (by omega) (by omega)]
      exact .inr ⟨m1, by omega⟩
    · omega
  · obtain ⟨c, rfl⟩ : ∃ c, b = 2147483648 + c := ⟨b - 2147483648, by omega⟩
    have m2 := mul_le_one (x := a) (y := c) (by omega) (by omega)
    rw [mul_negR (by omega) (by omega), litB_under (by omega)]
    exact .inl rfl

theorem pos_of_lt {x : Nat} (h : x < 2139095040) : pos32 x = true := by
  obtain ⟨m, i, hr, _⟩ := read_pos h
  unfold pos32
  rw [hr]; rfl

end Go.Proofs.YtpcmcopfdghdgaaDoor

namespace Go.Proofs.YtpcmcopfdghdgaaDoor
open Go

/-- How far the shade reaches, what that is of the window, and what is shaded. -/
def ratB (x : Int) (f : Nat) : Nat := fdiv (sineB x) f
def depB (o dr : Nat) (x : Int) (f : Nat) : Nat := fadd (fmul o (ratB x f)) dr
def quoA (o dr gp tl : Nat) (x : Int) (f : Nat) : Nat := fdiv (fsub (depB o dr x f) gp) tl
def cutB (q : Nat) : Nat := if FloatKind.f32.format.order q 0 = some .gt then (if FloatKind.f32.format.order q 1065353216 = some .gt then 1065353216 else q) else 0
def shB (o dr gp tl : Nat) (x : Int) (f : Nat) : Nat := if f = 0 then 0 else cutB (quoA o dr gp tl x f)
/-- The light behind an awning. -/
def behB (f p : Nat) : Nat := fsub f (fmul f p)

theorem neg0_add {x : Nat} (hx : x < 2139095040) : floatBits .add .f32 2147483648 x = some x := by
  obtain ⟨m, i, hr, hm⟩ := read_pos hx
  have hz : Ieee.single.read 2147483648 = .number true 0 (-149) := by decide +kernel
  show Ieee.single.add 2147483648 x = _
  unfold Ieee.Format.add
  rw [hr, hz]
  have e0 : min (-149) (-149 + (i : Int)) = -149 := by omega
  have e2 : (-149 + (i : Int) - (-149 : Int)).toNat = i := by omega
  have e4 : Ieee.signed true 0 (-149 - (-149 : Int)).toNat = 0 := by decide
  simp only [Ieee.Datum.sum, Option.map_some, Ieee.Format.write, e0, e2, e4, signed_false, Int.zero_add, Int.natAbs_natCast]
  have e5 : (if ((m * 2 ^ i : Nat) : Int) = 0 then (true && false) else decide (((m * 2 ^ i : Nat) : Int) < 0)) = false := by
    split
    · rfl
    · exact decide_eq_false (by omega)
  rw [e5]
  have hR := nearest_rnd (m * 2 ^ i) (-149) 0 0 (by omega)
  rw [hm] at hR ⊢
  rw [rnd_exact hR (r := x) (by omega) (by decide) rfl]

/-- A sum of two numbers that are not less than 0, or -0. -/
theorem addz {x y X Y : Nat} (hX : X < 2139095040) (hY : Y < 2139095040) (hx : x ≤ X ∨ x = 2147483648) (hy : y ≤ Y ∨ y = 2147483648) :
    floatBits .add .f32 x y = some (fadd x y) ∧ (fadd x y ≤ fadd X Y ∨ fadd x y = 2147483648) := by
  rcases hx with hx | rfl
  · rcases hy with hy | rfl
    · exact ⟨(add_rnd (by omega) (by omega)).1, .inl (add_mono hX hY hx hy)⟩
    · have h := add_neg0 (x := x) (by omega)
      rw [fadd_get h]
      refine ⟨h, .inl ?_⟩
      have m := add_mono (x := x) (X := X) (y := 0) (Y := Y) hX hY hx (Nat.zero_le _)
      have e : fadd x 0 = x := rnd_exact (add_rnd (x := x) (y := 0) (by omega) (by decide)).2 (by omega) (by decide) (by rw [rv_zero]; omega)
      omega
  · rcases hy with hy | rfl
    · have h := neg0_add (x := y) (by omega)
      rw [fadd_get h]
      refine ⟨h, .inl ?_⟩
      have m := add_mono (x := 0) (X := X) (y := y) (Y := Y) hX hY (Nat.zero_le _) hy
      have e : fadd 0 y = y := rnd_exact (add_rnd (x := 0) (y := y) (by decide) (by omega)).2 (by omega) (by decide) (by rw [rv_zero]; omega)
      omega
    · have h : floatBits .add .f32 2147483648 2147483648 = some 2147483648 := by decide +kernel
      rw [fadd_get h]
      exact ⟨h, .inr rfl⟩

theorem div_ok {x y : Nat} (hx : num32 x = true) (hy0 : 0 < y) (hy : y < 2139095040) : floatBits .quo .f32 x y = some (fdiv x y) ∧ fin32 (fdiv x y) = true := by
  obtain ⟨s, m, e, hr⟩ := num32_get hx
  obtain ⟨n, j, hq, hn⟩ := read_pos hy
  have hn0 : n ≠ 0 := by
    intro h; rw [h, Nat.zero_mul] at hn; have := rv_pos hy0; omega
  have h : ∃ d : Ieee.Datum, d.isNaN = false ∧ Ieee.single.div x y = some (Ieee.single.write d) := by
    unfold Ieee.Format.div
    rw [hr, hq]
    simp only [Ieee.Datum.quotient, if_neg hn0, Option.map_some]
    exact ⟨_, rfl, rfl⟩
  obtain ⟨d, hd, h⟩ := h
  have e1 : fdiv x y = Ieee.single.write d := by unfold fdiv; rw [h]; rfl
  rw [e1]
  exact ⟨h, write_fin _ hd⟩

theorem sine_high_nat : ∀ n : Nat, n < 65 → sineB (n : Int) ≤ 1065353216 := by decide +kernel

theorem sv_small {x B : Nat} (h : x ≤ B ∨ x = 2147483648) (hB : B < 2147483648) : (sv x).natAbs ≤ rv B := by
  rcases h with h | rfl
  · rw [sv_pos (by omega)]
    have := rv_le h
    omega
  · have : sv 2147483648 = 0 := by decide +kernel
    rw [this]; exact Nat.zero_le _
theorem isNum_small {x B : Nat} (h : x ≤ B ∨ x = 2147483648) (hB : B < 2139095040) : isNum x := by
  rcases h with h | rfl
  · exact .inl (by omega)
  · exact .inr ⟨by decide, by decide⟩

theorem shade_facts {o dr gp tl : Nat} (ho : o ≤ 1090519040 ∨ o = 2147483648) (hd : dr ≤ 1073741824 ∨ dr = 2147483648) (hg : gp ≤ 1073741824 ∨ gp = 2147483648) (t0 : 1040187392 ≤ tl) (t1 : tl ≤ 1082130432)
    {x : Int} (x0 : 0 < x) (x1 : x ≤ 64) {f : Nat} (f0 : 975015322 ≤ f) (f1 : f ≤ 1065353216) :
    floatBits .quo .f32 (sineB x) f = some (ratB x f) ∧ floatBits .mul .f32 o (ratB x f) = some (fmul o (ratB x f)) ∧ floatBits .add .f32 (fmul o (ratB x f)) dr = some (depB o dr x f) ∧
    floatBits .sub .f32 (depB o dr x f) gp = some (fsub (depB o dr x f) gp) ∧ floatBits .quo .f32 (fsub (depB o dr x f) gp) tl = some (quoA o dr gp tl x f) ∧ fin32 (quoA o dr gp tl x f) = true := by
  have hs : sineB x ≤ 1065353216 := by
    obtain ⟨n, rfl⟩ := Int.eq_ofNat_of_zero_le (by omega : 0 ≤ x)
    exact sine_high_nat n (by omega)
  have r1 := div_rnd (x := sineB x) (y := f) (by omega) (by omega) (by omega)
  have r2 := div_mono (x := sineB x) (X := 1065353216) (y := f) (Y := 975015322) (by decide) (by omega) (by decide) hs f0
  have e1 : fdiv 1065353216 975015322 = 1154480907 := by decide +kernel
  rw [e1] at r2
  have hp : floatBits .mul .f32 o (ratB x f) = some (fmul o (ratB x f)) ∧ (fmul o (ratB x f) ≤ 1179646731 ∨ fmul o (ratB x f) = 2147483648) := by
    have hr : ratB x f ≤ 1154480907 := r2
    rcases ho with ho | rfl
    · have m := mul_mono (x := o) (X := 1090519040) (y := ratB x f) (Y := 1154480907) (by decide) (by decide) ho hr
      have e2 : fmul 1090519040 1154480907 = 1179646731 := by decide +kernel
      rw [e2] at m
      exact ⟨(mul_rnd (by omega) (by omega)).1, .inl m⟩
    · have h := (mul_neg0 (x := ratB x f) (by omega)).2
      rw [fmul_get h]
      exact ⟨h, .inr rfl⟩
  have ha := addz (X := 1179646731) (Y := 1073741824) (by decide) (by decide) hp.2 hd
  have e3 : fadd 1179646731 1073741824 = 1179648779 := by decide +kernel
  rw [e3] at ha
  have hdep : depB o dr x f ≤ 1179648779 ∨ depB o dr x f = 2147483648 := ha.2
  have hg' : gp ≤ 1179648779 ∨ gp = 2147483648 := hg.imp (fun h => by omega) id
  have hsub := sub_num (x := depB o dr x f) (y := gp) (B := 1179648779) (C := 1188037387) (isNum_small hdep (by decide)) (isNum_small hg' (by decide)) (sv_small hdep (by decide)) (sv_small hg' (by decide)) (by decide +kernel) (by decide)
  have hq := div_ok (x := fsub (depB o dr x f) gp) (y := tl) (num_of_isNum hsub.2) (by omega) (by omega)
  exact ⟨r1.1, hp.1, ha.1, hsub.1, hq.1, hq.2⟩

theorem cutB_le {q : Nat} (hq : q < 4294967296) : cutB q ≤ 1065353216 := by
  unfold cutB
  by_cases h0 : FloatKind.f32.format.order q 0 = some .gt
  · rw [if_pos h0]
    by_cases h1 : FloatKind.f32.format.order q 1065353216 = some .gt
    · rw [if_pos h1]; exact Nat.le_refl _
    · rw [if_neg h1]
      rcases word_cases q hq with c | c | c | c
      · rw [order_num c (.inl (by decide))] at h0 h1
        injection h0 with h0
        have k0 := Int.compare_eq_gt.1 h0
        have k1 : ¬ (sv q > sv 1065353216) := fun h => h1 (by rw [Int.compare_eq_gt.2 h])
        have e0 : sv 0 = 0 := rfl
        rw [e0] at k0
        rw [sv_pos (x := 1065353216) (by decide)] at k1
        rcases c with c | ⟨c0, c1⟩
        · rw [sv_pos (x := q) (by omega)] at k1
          rw [← rv_le_iff]
          omega
        · obtain ⟨r, rfl⟩ : ∃ r, q = 2147483648 + r := ⟨q - 2147483648, by omega⟩
          have := sv_neg_le r
          omega
      · subst c
        exact absurd (inf_order 1065353216 (.inl (by decide))).1 h1
      · subst c
        rw [(inf_order 0 (.inl (by decide))).2] at h0
        cases h0
      · rw [nan_order c] at h0
        cases h0
  · rw [if_neg h0]; decide

theorem quoA_lt {o dr gp tl : Nat} {x : Int} {f : Nat} (h : floatBits .quo .f32 (fsub (depB o dr x f) gp) tl = some (quoA o dr gp tl x f)) : quoA o dr gp tl x f < 4294967296 := by
  have := floatBits_wf h
  simpa [Lit.wf] using this

theorem beh_facts {f p : Nat} (f1 : f ≤ 1065353216) (p1 : p ≤ 1065353216) :
    floatBits .mul .f32 f p = some (fmul f p) ∧ floatBits .sub .f32 f (fmul f p) = some (behB f p) ∧ behB f p ≤ f := by
  have m := mul_le_one (x := f) (y := p) (by omega) p1
  refine ⟨(mul_rnd (by omega) (by omega)).1, (sub_rnd (by omega) m).1, ?_⟩
  exact rnd_le (sub_rnd (x := f) (y := fmul f p) (by omega) m).2 (by decide) (by omega)

end Go.Proofs.YtpcmcopfdghdgaaDoor

namespace Go.Proofs.YtpcmcopfdghdgaaDoor
open Go.RowKit

def inB (n lo hi : Int) : Bool := decide (lo ≤ n) && decide (n ≤ hi)

theorem inB_true {n lo hi : Int} (h : inB n lo hi = true) : lo ≤ n ∧ n ≤ hi := by simpa [inB] using h

theorem inB_mk {n lo hi : Int} (h : lo ≤ n ∧ n ≤ hi) : inB n lo hi = true := by simpa [inB] using h

theorem inB_no {n lo hi : Int} (h : ¬ (lo ≤ n ∧ n ≤ hi)) : inB n lo hi = false := by
  cases e : inB n lo hi
  · rfl
  · exact absurd (inB_true e) h

set_option maxHeartbeats 400000 in
theorem l00In_any (n lo hi : Int) (w : World) :
    Calls Tryd.prog 55 #[.int .i64 n, .int .i64 lo, .int .i64 hi] w fun e w' => e = .returned (.bool (inB n lo hi)) ∧ w = w' := by
  unfold inB
  by_cases h1 : lo ≤ n
  · have h1' : decide (lo ≤ n) = true := decide_eq_true h1
    go_enter Tryd.func55, Tryd.ntmps55
    go_wp2
    go_ret
    rw [h1', Bool.true_and]
    exact ⟨rfl, rfl⟩
  · have h1' : decide (lo ≤ n) = false := decide_eq_false h1
    go_enter Tryd.func55, Tryd.ntmps55
    go_wp2
    go_ret
    exact ⟨by simp, rfl⟩

set_option maxHeartbeats 400000 in
theorem l01Height_any (n : Int) (w : World) :
    Calls Tryd.prog 57 #[.int .i64 n] w fun e w' => e = .returned (.bool (inB n (-64) 64)) ∧ w = w' := by
  go_enter Tryd.func57, Tryd.ntmps57
  go_wp2_with (go_at_call 55; refine (l00In_any _ _ _ _).mono ?_; rintro e w' ⟨rfl, rfl⟩)
  go_ret
  exact ⟨rfl, rfl⟩

set_option maxHeartbeats 400000 in
theorem l01Faced_any (n : Int) (w : World) :
    Calls Tryd.prog 29 #[.int .i64 n] w fun e w' => e = .returned (.bool (inB n 0 255)) ∧ w = w' := by
  go_enter Tryd.func29, Tryd.ntmps29
  go_wp2_with (go_at_call 55; refine (l00In_any _ _ _ _).mono ?_; rintro e w' ⟨rfl, rfl⟩)
  go_ret
  exact ⟨rfl, rfl⟩

set_option maxHeartbeats 400000 in
theorem l01Hour_any (n : Int) (w : World) :
    Calls Tryd.prog 28 #[.int .i64 n] w fun e w' => e = .returned (.bool (inB n 0 23)) ∧ w = w' := by
  go_enter Tryd.func28, Tryd.ntmps28
  go_wp2_with (go_at_call 55; refine (l00In_any _ _ _ _).mono ?_; rintro e w' ⟨rfl, rfl⟩)
  go_ret
  exact ⟨rfl, rfl⟩

/-- A sun is valid. -/
def okB (hs ts : List Int) : Bool := hs.all (fun x => inB x (-64) 64) && ts.all (fun x => inB x 0 255)

theorem all_get {p : Int → Bool} {xs : List Int} (n : Nat) (hx : xs.length = n) : xs.all p = true ↔ ∀ k, k < n → p (xs[k]?.getD 0) = true := by
  rw [List.all_eq_true]
  constructor
  · intro h k hk
    rw [List.getElem?_eq_getElem (by omega)]
    exact h _ (List.getElem_mem _)
  · intro h x hm
    obtain ⟨k, hk, rfl⟩ := List.mem_iff_getElem.1 hm
    have := h k (by omega)
    rwa [List.getElem?_eq_getElem hk] at this

theorem okB_iff (hs ts : List Int) (hh : hs.length = 24) (ht : ts.length = 24) : okB hs ts = true ↔ ∀ k, k < 24 → inB (hs[k]?.getD 0) (-64) 64 = true ∧ inB (ts[k]?.getD 0) 0 255 = true := by
  unfold okB
  rw [Bool.and_eq_true, all_get 24 hh, all_get 24 ht]
  constructor
  · intro h k hk; exact ⟨h.1 k hk, h.2 k hk⟩
  · intro h; exact ⟨fun k hk => (h k hk).1, fun k hk => (h k hk).2⟩

theorem okB_false {hs ts : List Int} (hh : hs.length = 24) (ht : ts.length = 24) (k : Nat) (hk : k < 24) (h : inB (hs[k]?.getD 0) (-64) 64 = false ∨ inB (ts[k]?.getD 0) 0 255 = false) : okB hs ts = false := by
  cases e : okB hs ts
  · rfl
  · obtain ⟨h1, h2⟩ := (okB_iff hs ts hh ht).1 e k hk
    rcases h with h | h
    · rw [h] at h1; cases h1
    · rw [h] at h2; cases h2

theorem cell_sun_h {w : World} {b : Nat} {hs ts : List Int} {t : TypeId} {fr : Nat × Nat} (hg : w.heap[b]? = some (.cells (sunC hs ts) t fr)) (hh : hs.length = 24) (k : Nat) (hk : k < 24) :
    w.cell? ⟨b, k, none⟩ = some (.int .i16 (hs[k]?.getD 0)) := by
  rw [cell_of_row w b k _ t fr hg, sunC, i16s_get _ _ (by simp; omega), List.getElem?_append_left (by omega)]

theorem cell_sun_t {w : World} {b : Nat} {hs ts : List Int} {t : TypeId} {fr : Nat × Nat} (hg : w.heap[b]? = some (.cells (sunC hs ts) t fr)) (hh : hs.length = 24) (ht : ts.length = 24) (k : Nat) (hk : k < 24) :
    w.cell? ⟨b, 24 + k, none⟩ = some (.int .i16 (ts[k]?.getD 0)) := by
  rw [cell_of_row w b (24 + k) _ t fr hg, sunC, i16s_get _ _ (by simp; omega), List.getElem?_append_right (by omega)]
  congr 4; omega

theorem rb_get {xs : List Int} (h : ∀ x ∈ xs, -32768 ≤ x ∧ x ≤ 32767) (k : Nat) : -32768 ≤ xs[k]?.getD 0 ∧ xs[k]?.getD 0 ≤ 32767 := by
  by_cases hk : k < xs.length
  · have e : xs[k]? = some xs[k] := List.getElem?_eq_getElem hk
    rw [e]; exact h _ (List.getElem_mem _)
  · rw [List.getElem?_eq_none (by omega)]; decide

set_option maxRecDepth 100000 in
set_option maxHeartbeats 1000000 in
theorem l01Ok_any (b : Nat) (hs ts : List Int) (hh : hs.length = 24) (ht : ts.length = 24) (rb : ∀ x ∈ hs ++ ts, -32768 ≤ x ∧ x ≤ 32767) (t : TypeId) (fr : Nat × Nat) (w : World) (hg : w.heap[b]? = some (.cells (sunC hs ts) t fr)) :
    Calls Tryd.prog 27 #[.pointer (some ⟨b, 0, none⟩)] w fun e w' => e = .returned (.bool (okB hs ts)) ∧ w = w' := by
  have Hh := Lib.hid hh
  have Ht := Lib.hid ht
  have Hg := Lib.hid hg
  have Rb := Lib.hid rb
  clear hh ht hg rb
  go_enter Tryd.func27, Tryd.ntmps27
  go_wp2
  go_loop [3] (fun i => ∃ k : Nat, k ≤ 24 ∧ i = .int .i64 k ∧ Hid (∀ j, j < k → inB (hs[j]?.getD 0) (-64) 64 = true ∧ inB (ts[j]?.getD 0) 0 255 = true)) (fun i => 24 - (intOf i).toNat)
  case atStart => exact ⟨0, Nat.zero_le _, rfl, Lib.hid (fun j h => absurd h (by omega))⟩
  case round =>
    obtain ⟨k, hk, rfl, hj⟩ := hrel
    by_cases hlt : k < 24
    · have c0 := cell_sun_h Hg.out Hh.out k hlt
      have c1 := cell_sun_t Hg.out Hh.out Ht.out k hlt
      have hxb := rb_get (fun x hx => Rb.out x (List.mem_append_left ts hx)) k
      have hyb := rb_get (fun x hx => Rb.out x (List.mem_append_right hs hx)) k
      generalize hA : hs[k]?.getD 0 = x at *
      generalize hB : ts[k]?.getD 0 = y at *
      have HA := Lib.hid hA
      have HB := Lib.hid hB
      clear hA hB
      obtain ⟨hx0, hx1⟩ := hxb
      obtain ⟨hy0, hy1⟩ := hyb
      by_cases h1 : inB x (-64) 64 = true
      · by_cases h2 : inB y 0 255 = true
        · go_wp2_with (first | (go_at_call 57; refine (l01Height_any _ _).mono ?_; rintro e w' ⟨rfl, rfl⟩) | (go_at_call 29; refine (l01Faced_any _ _).mono ?_; rintro e w' ⟨rfl, rfl⟩))
          go_round
          case rel =>
            refine ⟨k + 1, by omega, by go_num, Lib.hid fun j hj' => ?_⟩
            by_cases e : j = k
            · subst e; rw [HA.out, HB.out]; exact ⟨h1, h2⟩
            · exact hj.out j (by omega)
          case measure => simp [intOf]; omega
        · have h2' : inB y 0 255 = false := by simpa using h2
          have hno := Lib.hid (okB_false Hh.out Ht.out k hlt (.inr (by rw [HB.out]; exact h2')))
          clear h2
          go_wp2_with (first | (go_at_call 57; refine (l01Height_any _ _).mono ?_; rintro e w' ⟨rfl, rfl⟩) | (go_at_call 29; refine (l01Faced_any _ _).mono ?_; rintro e w' ⟨rfl, rfl⟩))
          go_ret
          rw [hno.out]; exact ⟨rfl, rfl⟩
      · have h1' : inB x (-64) 64 = false := by simpa using h1
        have hno := Lib.hid (okB_false Hh.out Ht.out k hlt (.inl (by rw [HA.out]; exact h1')))
        clear h1
        go_wp2_with (first | (go_at_call 57; refine (l01Height_any _ _).mono ?_; rintro e w' ⟨rfl, rfl⟩) | (go_at_call 29; refine (l01Faced_any _ _).mono ?_; rintro e w' ⟨rfl, rfl⟩))
        go_ret
        rw [hno.out]; exact ⟨rfl, rfl⟩
    · obtain rfl : k = 24 := by omega
      have hyes := Lib.hid ((okB_iff hs ts Hh.out Ht.out).2 hj.out)
      go_wp2
      go_ret
      rw [hyes.out]; exact ⟨rfl, rfl⟩

end Go.Proofs.YtpcmcopfdghdgaaDoor

namespace Go.Proofs.YtpcmcopfdghdgaaDoor
open Go.RowKit

theorem yields_part {P : Program} {ops : Array Oper} {S : World → Prop} {o : Oper} {a : Act} (hw : Region.wanted o (yielded ops a.tmps) = true) (ty : TypeId) (x : Operand) (ho : o.op = .load ty x)
    (g off n : Nat) (hx : a.eval x = .pointer (some ⟨g, off, none⟩)) (t : TypeId) (cs : Array Value) (fr : Nat × Nat) (d : TypeDesc) (hg : ∀ w, S w → w.heap[g]? = some (.cells cs t fr))
    (hu : P.underlying ty = some d) (hd : (match d with | .struct _ | .array _ _ => true | _ => false) = true) (hi : (P.info? ty).map (·.size) = some n) (hn : off + n ≤ cs.size)
    (vs : Array Value) (hvs : cs.extract off (off + n) = vs) : YieldsIf P ops S o (.agg vs) a :=
  .inl ⟨hw, fun w hw' => by
    subst hvs
    unfold execOp
    simp only [ho, hx, Instr.loadAt, Instr.sureAddr, Sem.run_bind, Sem.run_pure, Result.andThen_ok, run_loadVar_part w g off n t ty cs fr d (hg w hw') hu hd hi hn]⟩

theorem take_at {P : Program} {ops : Array Oper} {Q : Exit → Act → World → Prop} {md : Region.Mode} {S : World → Prop} {i d : Nat} {oi : Oper} {v : Value} {fuel : Nat} {listed : Array Bool} {a : Act} {w : World} (hi : ops[i]? = some oi) (hd : oi.dst = some d)
    (hs : Region.noSelect ops = true) (hf : Region.free md ops listed i = true) (hr : (Region.ready md ops listed).contains i = true)
    (hQ : ∀ c a w, Q (.panic c) (a.put oi.dst v) w → Q (.panic c) a w) (hy : YieldsIf P ops S oi v a) (hS : S w)
    (h : wpAnyH P md ops Q S fuel (listed.setIfInBounds i true) { tmps := a.tmps.setIfInBounds d v, defers := a.defers } w) : wpAnyH P md ops Q S (fuel + 1) listed a w :=
  wpAnyH_take hi hs hf hr hQ hy hS (by rw [hd]; exact h)

theorem clamp_eq (lo hi : Int) (h : lo ≤ hi) (y : Int) : clampI lo hi y = y ↔ inB y lo hi = true := by
  unfold clampI
  constructor
  · intro e
    apply inB_mk
    split at e <;> split at e <;> omega
  · intro e
    have := inB_true e
    have e1 : ¬ lo > y := by omega
    rw [if_neg e1, if_neg (by omega)]

theorem map_clamp (lo hi : Int) (h : lo ≤ hi) (xs : List Int) : (xs.map (clampI lo hi) == xs) = xs.all (fun x => inB x lo hi) := by
  rw [Bool.eq_iff_iff, beq_iff_eq, List.all_eq_true]
  induction xs with
  | nil => simp
  | cons x xs ih =>
    simp only [List.map_cons, List.cons.injEq, List.mem_cons, forall_eq_or_imp]
    rw [ih, clamp_eq lo hi h]

set_option maxRecDepth 100000 in
set_option maxHeartbeats 1000000 in
theorem ValidSun_any (hs ts : List Int) (hh : hs.length = 24) (ht : ts.length = 24) (w : World) :
    Calls Tryd.prog 37 #[.agg (sunC hs ts)] w fun e w' => e = .returned (.bool (okB hs ts)) ∧ Below w.heap.size w w' := by
  have hq1 := run_eql_arr (hs.map (clampI (-64) 64)) hs (by simpa using hh) hh
  have hq2 := run_eql_arr (ts.map (clampI 0 255)) ts (by simpa using ht) ht
  rw [map_clamp _ _ (by decide)] at hq1 hq2
  have hgd1 := fun w => run_eqGuard_agg (P := Tryd.prog) w .eql 27 (.tmp 5) (.tmp 7) (i16s (hs.map (clampI (-64) 64))) (i16s hs) (by kernel_rfl)
  have hgd2 := fun w => run_eqGuard_agg (P := Tryd.prog) w .eql 27 (.tmp 12) (.tmp 14) (i16s (ts.map (clampI 0 255))) (i16s ts) (by kernel_rfl)
  have Hh := Lib.hid hh
  have Ht := Lib.hid ht
  clear hh ht
  unfold okB
  by_cases hb : hs.all (fun x => inB x (-64) 64) = true
  · rw [hb] at hq1
    rw [hb]
    go_enter Tryd.func37, Tryd.ntmps37
    go_wp2
    refine wp_region_held_drew (S := (fun W => W.heap[w.heap.size]? = some (.cells (sunC hs ts) 37 (0, 0)) ∧ Below w.heap.size w W)) (by kernel_rfl) ⟨heap_alloc_new _ _, ((Below.refl _ _).alloc (Nat.le_refl _) _).drew⟩ (fun hHeld => ?_)
    refine take_at (i := 0) (d := 3) (v := ?_) rfl rfl (by kernel_rfl) (by kernel_rfl) (by kernel_rfl) (fun _ _ _ h => h) (Or.inl ⟨by rfl, ?hy0u1⟩) hHeld ?rest0u1
    case hy0u1 =>
      intro w' hS'
      go_simp
      try with_reducible rfl
    simp only [List.setIfInBounds_toArray, List.set_cons_zero, List.set_cons_succ]
    refine take_at (i := 1) (d := 4) (v := .agg (i16s hs)) rfl rfl (by kernel_rfl) (by kernel_rfl) (by kernel_rfl) (fun _ _ _ h => h) (yields_part (by rfl) 27 (.tmp 3) (by rfl) w.heap.size 0 24 (by rfl) 37 (sunC hs ts) (0, 0) _ (fun _ h => h.1) Tryd.underlying27 rfl info_arr (by rw [sunC_size _ _ Hh.out Ht.out]; decide) (i16s hs) (sunC_fst _ _ Hh.out)) hHeld ?_
    simp only [List.setIfInBounds_toArray, List.set_cons_zero, List.set_cons_succ]
    refine take_at (i := 3) (d := 6) (v := ?_) rfl rfl (by kernel_rfl) (by kernel_rfl) (by kernel_rfl) (fun _ _ _ h => h) (Or.inl ⟨by rfl, ?hy3u2⟩) hHeld ?rest3u2
    case hy3u2 =>
      intro w' hS'
      go_simp
      try with_reducible rfl
    simp only [List.setIfInBounds_toArray, List.set_cons_zero, List.set_cons_succ]
    refine take_at (i := 4) (d := 7) (v := .agg (i16s hs)) rfl rfl (by kernel_rfl) (by kernel_rfl) (by kernel_rfl) (fun _ _ _ h => h) (yields_part (by rfl) 27 (.tmp 6) (by rfl) w.heap.size 0 24 (by rfl) 37 (sunC hs ts) (0, 0) _ (fun _ h => h.1) Tryd.underlying27 rfl info_arr (by rw [sunC_size _ _ Hh.out Ht.out]; decide) (i16s hs) (sunC_fst _ _ Hh.out)) hHeld ?_
    simp only [List.setIfInBounds_toArray, List.set_cons_zero, List.set_cons_succ]
    refine wpAnyH_ready (rs := [2]) (by kernel_rfl) (by simp) ?_
    refine AllReadyH.cons rfl (fun K hK => ?_) AllReadyH.nil
    go_simp
    refine (held_any hs Hh.out (-64) 64 _).mono ?_
    rintro e W1 ⟨rfl, hb1⟩
    refine hK.out _ _ (⟨below_row hb1 hHeld.1, hHeld.2.trans (hb1.mono hHeld.2.size)⟩) (fun hHeld2 => ?_)
    clear hK K
    replace hHeld := hHeld2
    clear hHeld2
    refine take_at (i := 5) (d := 8) (v := ?_) rfl rfl (by kernel_rfl) (by kernel_rfl) (by kernel_rfl) (fun _ _ _ h => h) (Or.inl ⟨by rfl, ?hy5u3⟩) hHeld ?rest5u3
    case hy5u3 =>
      intro w' hS'
      go_simp
      try with_reducible rfl
    simp only [List.setIfInBounds_toArray, List.set_cons_zero, List.set_cons_succ]
    refine take_at (i := 6) (d := 9) (v := ?_) rfl rfl (by kernel_rfl) (by kernel_rfl) (by kernel_rfl) (fun _ _ _ h => h) (Or.inl ⟨by rfl, ?hy6u4⟩) hHeld ?rest6u4
    case hy6u4 =>
      intro w' hS'
      go_simp
      try with_reducible rfl
    simp only [List.setIfInBounds_toArray, List.set_cons_zero, List.set_cons_succ]
    refine take_at (i := 7) (d := 10) (v := ?_) rfl rfl (by kernel_rfl) (by kernel_rfl) (by kernel_rfl) (fun _ _ _ h => h) (Or.inl ⟨by rfl, ?hy7u5⟩) hHeld ?rest7u5
    case hy7u5 =>
      intro w' hS'
      go_simp
      try with_reducible rfl
    simp only [List.setIfInBounds_toArray, List.set_cons_zero, List.set_cons_succ]
    refine take_at (i := 8) (d := 11) (v := .agg (i16s ts)) rfl rfl (by kernel_rfl) (by kernel_rfl) (by kernel_rfl) (fun _ _ _ h => h) (yields_part (by rfl) 27 (.tmp 10) (by rfl) w.heap.size 24 24 (by rfl) 37 (sunC hs ts) (0, 0) _ (fun _ h => h.1) Tryd.underlying27 rfl info_arr (by rw [sunC_size _ _ Hh.out Ht.out]; decide) (i16s ts) (sunC_snd _ _ Hh.out Ht.out)) hHeld ?_
    simp only [List.setIfInBounds_toArray, List.set_cons_zero, List.set_cons_succ]
    refine take_at (i := 10) (d := 13) (v := ?_) rfl rfl (by kernel_rfl) (by kernel_rfl) (by kernel_rfl) (fun _ _ _ h => h) (Or.inl ⟨by rfl, ?hy10u6⟩) hHeld ?rest10u6
    case hy10u6 =>
      intro w' hS'
      go_simp
      try with_reducible rfl
    simp only [List.setIfInBounds_toArray, List.set_cons_zero, List.set_cons_succ]
    refine take_at (i := 11) (d := 14) (v := .agg (i16s ts)) rfl rfl (by kernel_rfl) (by kernel_rfl) (by kernel_rfl) (fun _ _ _ h => h) (yields_part (by rfl) 27 (.tmp 13) (by rfl) w.heap.size 24 24 (by rfl) 37 (sunC hs ts) (0, 0) _ (fun _ h => h.1) Tryd.underlying27 rfl info_arr (by rw [sunC_size _ _ Hh.out Ht.out]; decide) (i16s ts) (sunC_snd _ _ Hh.out Ht.out)) hHeld ?_
    simp only [List.setIfInBounds_toArray, List.set_cons_zero, List.set_cons_succ]
    refine wpAnyH_ready (rs := [9]) (by kernel_rfl) (by simp) ?_
    refine AllReadyH.cons rfl (fun K hK => ?_) AllReadyH.nil
    go_simp
    refine (held_any ts Ht.out 0 255 _).mono ?_
    rintro e W1 ⟨rfl, hb1⟩
    refine hK.out _ _ (⟨below_row hb1 hHeld.1, hHeld.2.trans (hb1.mono hHeld.2.size)⟩) (fun hHeld2 => ?_)
    clear hK K
    replace hHeld := hHeld2
    clear hHeld2
    refine take_at (i := 12) (d := 15) (v := ?_) rfl rfl (by kernel_rfl) (by kernel_rfl) (by kernel_rfl) (fun _ _ _ h => h) (Or.inl ⟨by rfl, ?hy12u7⟩) hHeld ?rest12u7
    case hy12u7 =>
      intro w' hS'
      go_simp
      try with_reducible rfl
    simp only [List.setIfInBounds_toArray, List.set_cons_zero, List.set_cons_succ]
    refine take_at (i := 13) (d := 16) (v := ?_) rfl rfl (by kernel_rfl) (by kernel_rfl) (by kernel_rfl) (fun _ _ _ h => h) (Or.inl ⟨by rfl, ?hy13u8⟩) hHeld ?rest13u8
    case hy13u8 =>
      intro w' hS'
      go_simp
      try with_reducible rfl
    simp only [List.setIfInBounds_toArray, List.set_cons_zero, List.set_cons_succ]
    refine take_at (i := 14) (d := 2) (v := ?_) rfl rfl (by kernel_rfl) (by kernel_rfl) (by kernel_rfl) (fun _ _ _ h => h) (Or.inl ⟨by rfl, ?hy14u9⟩) hHeld ?rest14u9
    case hy14u9 =>
      intro w' hS'
      go_simp
      try with_reducible rfl
    simp only [List.setIfInBounds_toArray, List.set_cons_zero, List.set_cons_succ]
    refine wpAnyH_done (by kernel_rfl) ?_ _
    go_wp2
    go_ret
    exact ⟨by rw [Bool.true_and]; rfl, hHeld.2⟩
  · have hb' : hs.all (fun x => inB x (-64) 64) = false := by simpa using hb
    rw [hb'] at hq1
    rw [hb']
    clear hb hb'
    go_enter Tryd.func37, Tryd.ntmps37
    go_wp2
    refine wp_region_held_drew (S := (fun W => W.heap[w.heap.size]? = some (.cells (sunC hs ts) 37 (0, 0)) ∧ Below w.heap.size w W)) (by kernel_rfl) ⟨heap_alloc_new _ _, ((Below.refl _ _).alloc (Nat.le_refl _) _).drew⟩ (fun hHeld => ?_)
    refine take_at (i := 0) (d := 3) (v := ?_) rfl rfl (by kernel_rfl) (by kernel_rfl) (by kernel_rfl) (fun _ _ _ h => h) (Or.inl ⟨by rfl, ?hy0u10⟩) hHeld ?rest0u10
    case hy0u10 =>
      intro w' hS'
      go_simp
      try with_reducible rfl
    simp only [List.setIfInBounds_toArray, List.set_cons_zero, List.set_cons_succ]
    refine take_at (i := 1) (d := 4) (v := .agg (i16s hs)) rfl rfl (by kernel_rfl) (by kernel_rfl) (by kernel_rfl) (fun _ _ _ h => h) (yields_part (by rfl) 27 (.tmp 3) (by rfl) w.heap.size 0 24 (by rfl) 37 (sunC hs ts) (0, 0) _ (fun _ h => h.1) Tryd.underlying27 rfl info_arr (by rw [sunC_size _ _ Hh.out Ht.out]; decide) (i16s hs) (sunC_fst _ _ Hh.out)) hHeld ?_
    simp only [List.setIfInBounds_toArray, List.set_cons_zero, List.set_cons_succ]
    refine take_at (i := 3) (d := 6) (v := ?_) rfl rfl (by kernel_rfl) (by kernel_rfl) (by kernel_rfl) (fun _ _ _ h => h) (Or.inl ⟨by rfl, ?hy3u11⟩) hHeld ?rest3u11
    case hy3u11 =>
      intro w' hS'
      go_simp
      try with_reducible rfl
    simp only [List.setIfInBounds_toArray, List.set_cons_zero, List.set_cons_succ]
    refine take_at (i := 4) (d := 7) (v := .agg (i16s hs)) rfl rfl (by kernel_rfl) (by kernel_rfl) (by kernel_rfl) (fun _ _ _ h => h) (yields_part (by rfl) 27 (.tmp 6) (by rfl) w.heap.size 0 24 (by rfl) 37 (sunC hs ts) (0, 0) _ (fun _ h => h.1) Tryd.underlying27 rfl info_arr (by rw [sunC_size _ _ Hh.out Ht.out]; decide) (i16s hs) (sunC_fst _ _ Hh.out)) hHeld ?_
    simp only [List.setIfInBounds_toArray, List.set_cons_zero, List.set_cons_succ]
    refine wpAnyH_ready (rs := [2]) (by kernel_rfl) (by simp) ?_
    refine AllReadyH.cons rfl (fun K hK => ?_) AllReadyH.nil
    go_simp
    refine (held_any hs Hh.out (-64) 64 _).mono ?_
    rintro e W1 ⟨rfl, hb1⟩
    refine hK.out _ _ (⟨below_row hb1 hHeld.1, hHeld.2.trans (hb1.mono hHeld.2.size)⟩) (fun hHeld2 => ?_)
    clear hK K
    replace hHeld := hHeld2
    clear hHeld2
    refine take_at (i := 5) (d := 8) (v := ?_) rfl rfl (by kernel_rfl) (by kernel_rfl) (by kernel_rfl) (fun _ _ _ h => h) (Or.inl ⟨by rfl, ?hy5u12⟩) hHeld ?rest5u12
    case hy5u12 =>
      intro w' hS'
      go_simp
      try with_reducible rfl
    simp only [List.setIfInBounds_toArray, List.set_cons_zero, List.set_cons_succ]
    refine take_at (i := 6) (d := 9) (v := ?_) rfl rfl (by kernel_rfl) (by kernel_rfl) (by kernel_rfl) (fun _ _ _ h => h) (Or.inl ⟨by rfl, ?hy6u13⟩) hHeld ?rest6u13
    case hy6u13 =>
      intro w' hS'
      go_simp
      try with_reducible rfl
    simp only [List.setIfInBounds_toArray, List.set_cons_zero, List.set_cons_succ]
    refine take_at (i := 7) (d := 10) rfl rfl (by kernel_rfl) (by kernel_rfl) (by kernel_rfl) (fun _ _ _ h => h) (Or.inr ⟨by rfl, rfl⟩) hHeld ?_
    simp only [List.setIfInBounds_toArray, List.set_cons_zero, List.set_cons_succ]
    refine take_at (i := 8) (d := 11) rfl rfl (by kernel_rfl) (by kernel_rfl) (by kernel_rfl) (fun _ _ _ h => h) (Or.inr ⟨by rfl, rfl⟩) hHeld ?_
    simp only [List.setIfInBounds_toArray, List.set_cons_zero, List.set_cons_succ]
    refine take_at (i := 10) (d := 13) rfl rfl (by kernel_rfl) (by kernel_rfl) (by kernel_rfl) (fun _ _ _ h => h) (Or.inr ⟨by rfl, rfl⟩) hHeld ?_
    simp only [List.setIfInBounds_toArray, List.set_cons_zero, List.set_cons_succ]
    refine take_at (i := 11) (d := 14) rfl rfl (by kernel_rfl) (by kernel_rfl) (by kernel_rfl) (fun _ _ _ h => h) (Or.inr ⟨by rfl, rfl⟩) hHeld ?_
    simp only [List.setIfInBounds_toArray, List.set_cons_zero, List.set_cons_succ]
    refine take_at (i := 9) (d := 12) rfl rfl (by kernel_rfl) (by kernel_rfl) (by kernel_rfl) (fun _ _ _ h => h) (Or.inr ⟨by rfl, rfl⟩) hHeld ?_
    simp only [List.setIfInBounds_toArray, List.set_cons_zero, List.set_cons_succ]
    refine take_at (i := 12) (d := 15) rfl rfl (by kernel_rfl) (by kernel_rfl) (by kernel_rfl) (fun _ _ _ h => h) (Or.inr ⟨by rfl, rfl⟩) hHeld ?_
    simp only [List.setIfInBounds_toArray, List.set_cons_zero, List.set_cons_succ]
    refine take_at (i := 13) (d := 16) (v := ?_) rfl rfl (by kernel_rfl) (by kernel_rfl) (by kernel_rfl) (fun _ _ _ h => h) (Or.inl ⟨by rfl, ?hy13u14⟩) hHeld ?rest13u14
    case hy13u14 =>
      intro w' hS'
      go_simp
      try with_reducible rfl
    simp only [List.setIfInBounds_toArray, List.set_cons_zero, List.set_cons_succ]
    refine take_at (i := 14) (d := 2) (v := ?_) rfl rfl (by kernel_rfl) (by kernel_rfl) (by kernel_rfl) (fun _ _ _ h => h) (Or.inl ⟨by rfl, ?hy14u15⟩) hHeld ?rest14u15
    case hy14u15 =>
      intro w' hS'
      go_simp
      try with_reducible rfl
    simp only [List.setIfInBounds_toArray, List.set_cons_zero, List.set_cons_succ]
    refine wpAnyH_done (by kernel_rfl) ?_ _
    go_wp2
    go_ret
    exact ⟨by rw [Bool.false_and]; rfl, hHeld.2⟩

end Go.Proofs.YtpcmcopfdghdgaaDoor

namespace Go.Proofs.YtpcmcopfdghdgaaDoor
open Go.ChangeShapes Go.WideShapes Go.ChangeAt Go.RowKit

set_option maxRecDepth 100000 in
theorem cells_sunL : Tryd.prog.cellsOf 29 = 48 := by kernel_rfl

set_option maxRecDepth 100000 in
theorem cells_arr : Tryd.prog.cellsOf 27 = 24 := by kernel_rfl

set_option maxRecDepth 100000 in
theorem cells_i16 : Tryd.prog.cellsOf 26 = 1 := by kernel_rfl

def rd16 : Value → Int | .int _ n => n | _ => 0

set_option maxRecDepth 100000 in
theorem open_arr {H : Type} {enc : TypeId × Value → H} {W : World} {base : Nat} {spare : Nat → Bool} {held : Bool} {fuel : Nat} {cs : List Value} {x : DataW H × List MemPlace}
    (h : DataW.trod enc Tryd.prog W base spare held fuel 27 cs = some x) : ∀ i, i < 24 → ∃ n, cs[i]? = some (.int .i16 n) ∧ -32768 ≤ n ∧ n ≤ 32767 := by
  obtain ⟨xs, m, _, _, hl, hlen, hf⟩ := Go.DataW.trod_array Tryd.underlying27 h
  rw [cells_arr] at hl
  intro i hi
  have h1 := hf i hi
  rw [cells_i16, Nat.mul_one] at h1
  rw [List.getElem?_eq_getElem (by omega : i < xs.length)] at h1
  obtain ⟨n, hn, _, hw⟩ := DataW.trod_int Tryd.underlying26 h1
  refine ⟨n, ?_, ?_⟩
  · have h2 : ((cs.drop i).take 1)[0]? = some (.int .i16 n) := by rw [hn]; rfl
    rw [List.getElem?_take_of_lt (by decide), List.getElem?_drop] at h2
    simpa using h2
  · simp [Lit.wf, IntKind.min, IntKind.max, IntKind.signed, IntKind.bits] at hw
    omega

set_option maxRecDepth 100000 in
theorem open_sun {H : Type} {enc : TypeId × Value → H} {W : World} {b0 base : Nat} {spare : Nat → Bool} {held : Bool} {r : Reach} {v : Value} {d : DataW H} {p : List MemPlace}
    (hv : Value.okWide Tryd.prog W r b0 29 v) (h : DataW.Trod enc Tryd.prog W base spare held 29 v d p) :
    ∃ hs ts : List Int, hs.length = 24 ∧ ts.length = 24 ∧ (∀ x ∈ hs ++ ts, -32768 ≤ x ∧ x ≤ 32767) ∧ v = .agg (sunC hs ts) := by
  obtain ⟨cs, rfl, hsz⟩ := okWide_struct Tryd.underlying29 hv
  rw [cells_sunL] at hsz
  obtain ⟨fuel, hf⟩ := h
  obtain ⟨y0, y1, n, hx, _, h0, h1⟩ := trod_struct2 Tryd.underlying29 hf
  have hall : ∀ i, i < 48 → ∃ n, cs.toList[i]? = some (.int .i16 n) ∧ -32768 ≤ n ∧ n ≤ 32767 := by
    intro i hi
    by_cases c : i < 24
    · obtain ⟨n, hn, hb⟩ := open_arr h0 i c
      refine ⟨n, ?_, hb⟩
      simp only [Value.cells, cells_arr, List.drop_zero] at hn
      rwa [List.getElem?_take_of_lt c] at hn
    · obtain ⟨n, hn, hb⟩ := open_arr h1 (i - 24) (by omega)
      refine ⟨n, ?_, hb⟩
      simp only [Value.cells, cells_arr] at hn
      rw [List.getElem?_take_of_lt (by omega), List.getElem?_drop] at hn
      rwa [show 24 + (i - 24) = i by omega] at hn
  have hlen : cs.toList.length = 48 := by simpa using hsz
  have hcs : cs = i16s (cs.toList.map rd16) := by
    apply Array.ext'
    simp only [i16s, List.map_map]
    apply List.ext_getElem?
    intro i
    by_cases c : i < 48
    · obtain ⟨n, hn, _⟩ := hall i c
      rw [hn, List.getElem?_map, hn]; rfl
    · rw [List.getElem?_eq_none (by omega), List.getElem?_eq_none (by simp; omega)]
  refine ⟨(cs.toList.map rd16).take 24, (cs.toList.map rd16).drop 24, by simp; omega, by simp; omega, ?_, ?_⟩
  · rw [List.take_append_drop]
    intro x hx
    obtain ⟨i, hi, rfl⟩ := List.mem_iff_getElem.1 hx
    simp only [List.length_map] at hi
    obtain ⟨n, hn, hb⟩ := hall i (by omega)
    rw [List.getElem?_eq_getElem hi] at hn
    simp only [List.getElem_map]
    have : cs.toList[i] = .int .i16 n := by injection hn
    rw [this]; exact hb
  · unfold sunC
    rw [List.take_append_drop, ← hcs]

end Go.Proofs.YtpcmcopfdghdgaaDoor

namespace Go.Proofs.YtpcmcopfdghdgaaDoor
open Go.ChangeShapes Go.WideShapes Go.ChangeAt Go.RowKit

end Go.Proofs.YtpcmcopfdghdgaaDoor

namespace Go.Proofs.YtpcmcopfdghdgaaDoor
open Go.RowKit

def inH (n : Int) : Bool := inB n 0 23

def inF (n : Int) : Bool := inB n 0 255

set_option maxHeartbeats 400000 in
theorem isHour_any (n : Int) (w : World) :
    Calls Tryd.prog 38 #[.int .i64 n] w fun e w' => e = .returned (.bool (inH n)) ∧ w = w' := by
  have e : inH n = (decide (0 ≤ n) && decide (n < 24)) := by
    unfold inH inB
    congr 1
    rw [Bool.eq_iff_iff, decide_eq_true_iff, decide_eq_true_iff]; omega
  rw [e]
  clear e
  by_cases h1 : 0 ≤ n
  · have h1' : decide (0 ≤ n) = true := decide_eq_true h1
    go_enter Tryd.func38, Tryd.ntmps38
    go_wp2
    go_ret
    rw [h1', Bool.true_and]
    exact ⟨rfl, rfl⟩
  · have h1' : decide (0 ≤ n) = false := decide_eq_false h1
    go_enter Tryd.func38, Tryd.ntmps38
    go_wp2
    go_ret
    exact ⟨rfl, rfl⟩

set_option maxHeartbeats 400000 in
theorem isFacing_any (n : Int) (w : World) :
    Calls Tryd.prog 39 #[.int .i64 n] w fun e w' => e = .returned (.bool (inF n)) ∧ w = w' := by
  have e : inF n = (decide (0 ≤ n) && decide (n < 256)) := by
    unfold inF inB
    congr 1
    rw [Bool.eq_iff_iff, decide_eq_true_iff, decide_eq_true_iff]; omega
  rw [e]
  clear e
  by_cases h1 : 0 ≤ n
  · have h1' : decide (0 ≤ n) = true := decide_eq_true h1
    go_enter Tryd.func39, Tryd.ntmps39
    go_wp2
    go_ret
    rw [h1', Bool.true_and]
    exact ⟨rfl, rfl⟩
  · have h1' : decide (0 ≤ n) = false := decide_eq_false h1
    go_enter Tryd.func39, Tryd.ntmps39
    go_wp2
    go_ret
    exact ⟨rfl, rfl⟩

/-- The code of a sun, and of what is asked of numbers. -/
def codeB (ok fine : Bool) : Int := if ok then (if fine then 0 else 2) else 1

/-- The height at an hour; the turn at an hour. -/
def atH (xs : List Int) (hour : Int) : Int := xs[hour.toNat]?.getD 0

set_option maxRecDepth 100000 in
set_option maxHeartbeats 400000 in
theorem upAt_any (hs ts : List Int) (hh : hs.length = 24) (hour : Int) (h0 : 0 ≤ hour) (h1 : hour < 24) (w : World) :
    Calls Tryd.prog 65 #[.agg (sunC hs ts), .int .i64 hour] w fun e w' => e = .returned (.bool (decide (0 < atH hs hour))) ∧ Below w.heap.size w w' := by
  obtain ⟨k, rfl⟩ := Int.eq_ofNat_of_zero_le h0
  have hk : k < 24 := by omega
  have hc := cell_sun_h (heap_alloc_new w (.cells (sunC hs ts) 37)) hh k hk
  have ea : atH hs (k : Int) = hs[k]?.getD 0 := by unfold atH; rw [Int.toNat_natCast]
  rw [ea]
  generalize hs[k]?.getD 0 = x at *
  clear ea hh
  go_enter Tryd.func65, Tryd.ntmps65
  go_wp2
  go_ret
  exact ⟨rfl, (Below.refl _ _).alloc (Nat.le_refl _) _⟩

end Go.Proofs.YtpcmcopfdghdgaaDoor

namespace Go.Proofs.YtpcmcopfdghdgaaDoor
open Go.ChangeShapes Go.WideShapes Go.ChangeAt Go.RowKit

theorem isHour_is (n : Int) (b : Bool) (h : inH n = b) (w : World) : Calls Tryd.prog 38 #[.int .i64 n] w fun e w' => e = .returned (.bool b) ∧ w = w' := by
  subst h; exact isHour_any n w

theorem l01Hour_is (n : Int) (b : Bool) (h : inH n = b) (w : World) : Calls Tryd.prog 28 #[.int .i64 n] w fun e w' => e = .returned (.bool b) ∧ w = w' := by
  subst h; exact l01Hour_any n w





theorem inH_bd {n : Int} (h : inH n = true) : 0 ≤ n ∧ n < 24 := by
  have := inB_true h; omega

theorem codeB_ne {ok fine : Bool} (h : ¬ (ok = true ∧ fine = true)) : codeB ok fine ≠ 0 := by
  cases ok <;> cases fine <;> simp_all [codeB]

/-- What is asked of a sun and of other arguments is all right, or the code tells what is not. -/
def upV (hs ts : List Int) (hour : Int) : Bool := okB hs ts && inH hour && decide (0 < atH hs hour)

end Go.Proofs.YtpcmcopfdghdgaaDoor

namespace Go.Proofs.YtpcmcopfdghdgaaDoor
open Go.RowKit

theorem qfacts (a : Int) (h0 : 0 ≤ a) (h1 : a ≤ 64) :
    floatBits .quo .f32 (floatOfInt .f32 a) 1115684864 = some (qx a) ∧ floatBits .mul .f32 (qx a) (qx a) = some (qy a)
    ∧ floatBits .mul .f32 (qy a) 1033109504 = some (qyk a) ∧ floatBits .sub .f32 1059356672 (qyk a) = some (qp a)
    ∧ floatBits .mul .f32 (qy a) (qp a) = some (qyp a) ∧ floatBits .sub .f32 1070137344 (qyp a) = some (qq a)
    ∧ floatBits .mul .f32 (qx a) (qq a) = some (qs a) ∧ floatBits .sub .f32 0 (qs a) = some (qn a) := by
  have h := qOk_all a h0 h1
  simpa [qOk, Bool.and_eq_true, and_assoc] using h

set_option maxHeartbeats 400000 in
theorem firstSine_any (a : Int) (h0 : 0 ≤ a) (h1 : a ≤ 64) (w : World) :
    Calls Tryd.prog 88 #[.int .i16 a] w fun e w' => e = .returned (.float .f32 (qs a)) ∧ w = w' := by
  obtain ⟨e1, e2, e3, e4, e5, e6, e7, _⟩ := qfacts a h0 h1
  have r1 : ∀ t w, (binOp .quo t (.float .f32 (floatOfInt .f32 a)) (.float .f32 1115684864)).run Tryd.prog w = .ok (.float .f32 (qx a)) w := fun t w => run_float_arith w .quo t .f32 _ _ _ e1
  have r2 : ∀ t w, (binOp .mul t (.float .f32 (qx a)) (.float .f32 (qx a))).run Tryd.prog w = .ok (.float .f32 (qy a)) w := fun t w => run_float_arith w .mul t .f32 _ _ _ e2
  have r3 : ∀ t w, (binOp .mul t (.float .f32 (qy a)) (.float .f32 1033109504)).run Tryd.prog w = .ok (.float .f32 (qyk a)) w := fun t w => run_float_arith w .mul t .f32 _ _ _ e3
  have r4 : ∀ t w, (binOp .sub t (.float .f32 1059356672) (.float .f32 (qyk a))).run Tryd.prog w = .ok (.float .f32 (qp a)) w := fun t w => run_float_arith w .sub t .f32 _ _ _ e4
  have r5 : ∀ t w, (binOp .mul t (.float .f32 (qy a)) (.float .f32 (qp a))).run Tryd.prog w = .ok (.float .f32 (qyp a)) w := fun t w => run_float_arith w .mul t .f32 _ _ _ e5
  have r6 : ∀ t w, (binOp .sub t (.float .f32 1070137344) (.float .f32 (qyp a))).run Tryd.prog w = .ok (.float .f32 (qq a)) w := fun t w => run_float_arith w .sub t .f32 _ _ _ e6
  have r7 : ∀ t w, (binOp .mul t (.float .f32 (qx a)) (.float .f32 (qq a))).run Tryd.prog w = .ok (.float .f32 (qs a)) w := fun t w => run_float_arith w .mul t .f32 _ _ _ e7
  clear e1 e2 e3 e4 e5 e6 e7
  go_enter Tryd.func88, Tryd.ntmps88
  go_wp2_with (simp only [r1, r2, r3, r4, r5, r6, r7])
  go_ret
  exact ⟨rfl, rfl⟩


set_option maxHeartbeats 400000 in
theorem secondSine_any (a : Int) (h0 : 64 ≤ a) (h1 : a ≤ 128) (w : World) :
    Calls Tryd.prog 89 #[.int .i16 a] w fun e w' => e = .returned (.float .f32 (qs (128 - a))) ∧ w = w' := by
  go_enter Tryd.func89, Tryd.ntmps89
  go_wp2_with (go_at_call 88; refine (firstSine_any _ (by omega) (by omega) _).mono ?_; rintro e w' ⟨rfl, rfl⟩)
  go_ret
  exact ⟨rfl, rfl⟩

set_option maxHeartbeats 400000 in
theorem thirdSine_any (a : Int) (h0 : 128 ≤ a) (h1 : a ≤ 192) (w : World) :
    Calls Tryd.prog 90 #[.int .i16 a] w fun e w' => e = .returned (.float .f32 (qn (a - 128))) ∧ w = w' := by
  obtain ⟨_, _, _, _, _, _, _, e8⟩ := qfacts (a - 128) (by omega) (by omega)
  have r8 : ∀ t w, (binOp .sub t (.float .f32 0) (.float .f32 (qs (a - 128)))).run Tryd.prog w = .ok (.float .f32 (qn (a - 128))) w := fun t w => run_float_arith w .sub t .f32 _ _ _ e8
  clear e8
  go_enter Tryd.func90, Tryd.ntmps90
  go_wp2_with (go_at_call 88; refine (firstSine_any _ (by omega) (by omega) _).mono ?_; rintro e w' ⟨rfl, rfl⟩)
  go_ret
  exact ⟨rfl, rfl⟩

set_option maxHeartbeats 400000 in
theorem fourthSine_any (a : Int) (h0 : 192 ≤ a) (h1 : a ≤ 255) (w : World) :
    Calls Tryd.prog 91 #[.int .i16 a] w fun e w' => e = .returned (.float .f32 (qn (256 - a))) ∧ w = w' := by
  obtain ⟨_, _, _, _, _, _, _, e8⟩ := qfacts (256 - a) (by omega) (by omega)
  have r8 : ∀ t w, (binOp .sub t (.float .f32 0) (.float .f32 (qs (256 - a)))).run Tryd.prog w = .ok (.float .f32 (qn (256 - a))) w := fun t w => run_float_arith w .sub t .f32 _ _ _ e8
  clear e8
  go_enter Tryd.func91, Tryd.ntmps91
  go_wp2_with (go_at_call 88; refine (firstSine_any _ (by omega) (by omega) _).mono ?_; rintro e w' ⟨rfl, rfl⟩)
  go_ret
  exact ⟨rfl, rfl⟩

theorem ret_int {k : IntKind} {a b : Int} (h : a = b) : Ending.returned (.int k a) = .returned (.int k b) := by rw [h]
theorem ret_f32 {a b : Nat} (h : a = b) : Ending.returned (.float .f32 a) = .returned (.float .f32 b) := by rw [h]

theorem tmod_ang (a : Int) : a.tmod 256 % 256 = angB a := by
  unfold angB
  have h3 : a = 256 * a.tdiv 256 + a.tmod 256 := (Int.mul_tdiv_add_tmod a 256).symm
  omega
theorem tmod_ang2 (a : Int) : (a.tmod 256 + 256) % 256 = angB a := by
  have h := tmod_ang a
  omega

theorem tmod_bd (a : Int) : -256 < a.tmod 256 ∧ a.tmod 256 < 256 :=
  ⟨Int.lt_tmod_of_pos a (b := 256) (by decide), Int.tmod_lt_of_pos a (b := 256) (by decide)⟩

set_option maxHeartbeats 400000 in
theorem angleOf_any (a : Int) (w : World) :
    Calls Tryd.prog 66 #[.int .i64 a] w fun e w' => e = .returned (.int .i16 (angB a)) ∧ w = w' := by
  obtain ⟨h1, h2⟩ := tmod_bd a
  have h3 := angB_lo a
  have h4 := angB_hi a
  go_enter Tryd.func66, Tryd.ntmps66
  go_wp2
  go_ret
  exact ⟨ret_int (tmod_ang a), rfl⟩

set_option maxHeartbeats 400000 in
theorem l01Angle_any (a : Int) (w : World) :
    Calls Tryd.prog 32 #[.int .i64 a] w fun e w' => e = .returned (.int .i64 (angB a)) ∧ w = w' := by
  obtain ⟨h1, h2⟩ := tmod_bd a
  go_enter Tryd.func32, Tryd.ntmps32
  go_wp2
  go_ret
  exact ⟨ret_int (tmod_ang2 a), rfl⟩

theorem i16_in (n : Int) (h0 : -32768 ≤ n) (h1 : n ≤ 32767) : IntKind.i16.wrap n = n := by
  simp [IntKind.wrap, IntKind.signed, IntKind.bits]
  omega
theorem quart (a k : Int) (h0 : 0 ≤ k) (h3 : k ≤ 3) (hl : 64 * k ≤ a) (hh : a < 64 * k + 64) : IntKind.i16.wrap (a.tdiv 64) = k := by
  have h : a.tdiv 64 = k := by
    rw [Int.tdiv_eq_ediv_of_nonneg (by omega)]; omega
  rw [h]; exact i16_in k (by omega) (by omega)

set_option maxHeartbeats 400000 in
theorem sine_q1 (a : Int) (h0 : 0 ≤ a) (h1 : a < 64) (w : World) :
    Calls Tryd.prog 82 #[.int .i16 a] w fun e w' => e = .returned (.float .f32 (qs a)) ∧ Below w.heap.size w w' := by
  have hq := quart a 0 (by omega) (by omega) (by omega) (by omega)
  go_enter Tryd.func82, Tryd.ntmps82
  go_wp2_with (go_at_call 88; refine (firstSine_any _ (by omega) (by omega) _).mono ?_; rintro e w' ⟨rfl, rfl⟩)
  go_ret
  exact ⟨rfl, (Below.refl _ _).alloc (Nat.le_refl _) _⟩

set_option maxHeartbeats 400000 in
theorem sine_q2 (a : Int) (h0 : 64 ≤ a) (h1 : a < 128) (w : World) :
    Calls Tryd.prog 82 #[.int .i16 a] w fun e w' => e = .returned (.float .f32 (qs (128 - a))) ∧ Below w.heap.size w w' := by
  have hq := quart a 1 (by omega) (by omega) (by omega) (by omega)
  go_enter Tryd.func82, Tryd.ntmps82
  go_wp2_with (go_at_call 89; refine (secondSine_any _ (by omega) (by omega) _).mono ?_; rintro e w' ⟨rfl, rfl⟩)
  go_ret
  exact ⟨rfl, (Below.refl _ _).alloc (Nat.le_refl _) _⟩

set_option maxHeartbeats 400000 in
theorem sine_q3 (a : Int) (h0 : 128 ≤ a) (h1 : a < 192) (w : World) :
    Calls Tryd.prog 82 #[.int .i16 a] w fun e w' => e = .returned (.float .f32 (qn (a - 128))) ∧ Below w.heap.size w w' := by
  have hq := quart a 2 (by omega) (by omega) (by omega) (by omega)
  go_enter Tryd.func82, Tryd.ntmps82
  go_wp2_with (go_at_call 90; refine (thirdSine_any _ (by omega) (by omega) _).mono ?_; rintro e w' ⟨rfl, rfl⟩)
  go_ret
  exact ⟨rfl, (Below.refl _ _).alloc (Nat.le_refl _) _⟩

set_option maxHeartbeats 400000 in
theorem sine_q4 (a : Int) (h0 : 192 ≤ a) (h1 : a < 256) (w : World) :
    Calls Tryd.prog 82 #[.int .i16 a] w fun e w' => e = .returned (.float .f32 (qn (256 - a))) ∧ Below w.heap.size w w' := by
  have hq := quart a 3 (by omega) (by omega) (by omega) (by omega)
  go_enter Tryd.func82, Tryd.ntmps82
  go_wp2_with (go_at_call 91; refine (fourthSine_any _ (by omega) (by omega) _).mono ?_; rintro e w' ⟨rfl, rfl⟩)
  go_ret
  exact ⟨rfl, (Below.refl _ _).alloc (Nat.le_refl _) _⟩


theorem qn_0 : qn 0 = qs 0 := by decide +kernel

theorem sine_any (a : Int) (h0 : 0 ≤ a) (h1 : a ≤ 255) (w : World) :
    Calls Tryd.prog 82 #[.int .i16 a] w fun e w' => e = .returned (.float .f32 (sineB a)) ∧ Below w.heap.size w w' := by
  have key : ∀ x, sineB a = x → (Calls Tryd.prog 82 #[.int .i16 a] w fun e w' => e = .returned (.float .f32 x) ∧ Below w.heap.size w w') → Calls Tryd.prog 82 #[.int .i16 a] w fun e w' => e = .returned (.float .f32 (sineB a)) ∧ Below w.heap.size w w' := by
    intro x hx h
    rw [hx]; exact h
  by_cases c1 : a < 64
  · exact key _ (by unfold sineB; rw [if_pos (by omega)]) (sine_q1 a h0 c1 w)
  by_cases c2 : a < 128
  · refine key _ ?_ (sine_q2 a (by omega) c2 w)
    unfold sineB
    by_cases e : a = 64
    · subst e; rfl
    · rw [if_neg (by omega), if_pos (by omega)]
  by_cases c3 : a < 192
  · refine key _ ?_ (sine_q3 a (by omega) c3 w)
    unfold sineB
    by_cases e : a = 128
    · subst e; rw [if_neg (by omega), if_pos (by omega)]; exact qn_0.symm
    · rw [if_neg (by omega), if_neg (by omega), if_pos (by omega)]
  · refine key _ ?_ (sine_q4 a (by omega) (by omega) w)
    unfold sineB
    by_cases e : a = 192
    · subst e; rfl
    · rw [if_neg (by omega), if_neg (by omega), if_neg (by omega)]

set_option maxHeartbeats 400000 in
theorem cosine_any (a : Int) (h0 : -32768 ≤ a) (h1 : a ≤ 32767) (w : World) :
    Calls Tryd.prog 67 #[.int .i16 a] w fun e w' => e = .returned (.float .f32 (cosB a)) ∧ Below w.heap.size w w' := by
  have hl := angB_lo (a + 64)
  have hh := angB_hi (a + 64)
  go_enter Tryd.func67, Tryd.ntmps67
  go_wp2_with (first | (go_at_call 66; refine (angleOf_any _ _).mono ?_; rintro e w' ⟨rfl, rfl⟩) | (go_at_call 82; refine (sine_any _ (by omega) (by omega) _).mono ?_; rintro e w1 ⟨rfl, hb⟩))
  go_ret
  exact ⟨rfl, hb⟩

theorem cosB_ang (a : Int) : cosB (angB a) = cosB a := by
  unfold cosB angB
  congr 1
  omega

/-! ### The model's functions -/
set_option maxHeartbeats 400000 in
theorem l01Quarter_any (a : Int) (h0 : 0 ≤ a) (h1 : a ≤ 64) (w : World) :
    Calls Tryd.prog 87 #[.int .i64 a] w fun e w' => e = .returned (.float .f32 (qs a)) ∧ w = w' := by
  obtain ⟨e1, e2, e3, e4, e5, e6, e7, _⟩ := qfacts a h0 h1
  have r1 : ∀ t w, (binOp .quo t (.float .f32 (floatOfInt .f32 a)) (.float .f32 1115684864)).run Tryd.prog w = .ok (.float .f32 (qx a)) w := fun t w => run_float_arith w .quo t .f32 _ _ _ e1
  have r2 : ∀ t w, (binOp .mul t (.float .f32 (qx a)) (.float .f32 (qx a))).run Tryd.prog w = .ok (.float .f32 (qy a)) w := fun t w => run_float_arith w .mul t .f32 _ _ _ e2
  have r3 : ∀ t w, (binOp .mul t (.float .f32 (qy a)) (.float .f32 1033109504)).run Tryd.prog w = .ok (.float .f32 (qyk a)) w := fun t w => run_float_arith w .mul t .f32 _ _ _ e3
  have r4 : ∀ t w, (binOp .sub t (.float .f32 1059356672) (.float .f32 (qyk a))).run Tryd.prog w = .ok (.float .f32 (qp a)) w := fun t w => run_float_arith w .sub t .f32 _ _ _ e4
  have r5 : ∀ t w, (binOp .mul t (.float .f32 (qy a)) (.float .f32 (qp a))).run Tryd.prog w = .ok (.float .f32 (qyp a)) w := fun t w => run_float_arith w .mul t .f32 _ _ _ e5
  have r6 : ∀ t w, (binOp .sub t (.float .f32 1070137344) (.float .f32 (qyp a))).run Tryd.prog w = .ok (.float .f32 (qq a)) w := fun t w => run_float_arith w .sub t .f32 _ _ _ e6
  have r7 : ∀ t w, (binOp .mul t (.float .f32 (qx a)) (.float .f32 (qq a))).run Tryd.prog w = .ok (.float .f32 (qs a)) w := fun t w => run_float_arith w .mul t .f32 _ _ _ e7
  clear e1 e2 e3 e4 e5 e6 e7
  go_enter Tryd.func87, Tryd.ntmps87
  go_wp2
  go_ret
  exact ⟨rfl, rfl⟩

set_option maxHeartbeats 400000 in
theorem l01Sine_any (a : Int) (w : World) :
    Calls Tryd.prog 75 #[.int .i64 a] w fun e w' => e = .returned (.float .f32 (sineB (angB a))) ∧ w = w' := by
  have hl := angB_lo a
  have hh := angB_hi a
  have hs : ∀ x, (∀ t w, (binOp .sub t (.float .f32 0) (.float .f32 (qs x))).run Tryd.prog w = .ok (.float .f32 (qn x)) w) ∨ ¬ (0 ≤ x ∧ x ≤ 64) := by
    intro x
    by_cases h : 0 ≤ x ∧ x ≤ 64
    · obtain ⟨_, _, _, _, _, _, _, e8⟩ := qfacts x h.1 h.2
      exact .inl fun t w => run_float_arith w .sub t .f32 _ _ _ e8
    · exact .inr h
  generalize hn : angB a = n at *
  have H := Lib.hid hn
  clear hn
  unfold sineB
  by_cases c1 : n ≤ 64
  · rw [if_pos c1]
    clear hs
    go_enter Tryd.func75, Tryd.ntmps75
    go_wp2_with (first | (go_at_call 32; refine (l01Angle_any _ _).mono ?_; rintro e w' ⟨rfl, rfl⟩; rw [H.out]) | (go_at_call 87; refine (l01Quarter_any _ (by omega) (by omega) _).mono ?_; rintro e w1 ⟨rfl, rfl⟩))
    go_ret
    exact ⟨rfl, rfl⟩
  rw [if_neg c1]
  by_cases c2 : n ≤ 128
  · rw [if_pos c2]
    clear hs
    go_enter Tryd.func75, Tryd.ntmps75
    go_wp2_with (first | (go_at_call 32; refine (l01Angle_any _ _).mono ?_; rintro e w' ⟨rfl, rfl⟩; rw [H.out]) | (go_at_call 87; refine (l01Quarter_any _ (by omega) (by omega) _).mono ?_; rintro e w1 ⟨rfl, rfl⟩))
    go_ret
    exact ⟨rfl, rfl⟩
  rw [if_neg c2]
  by_cases c3 : n ≤ 192
  · rw [if_pos c3]
    have r := (hs (n - 128)).resolve_right (by omega)
    clear hs
    go_enter Tryd.func75, Tryd.ntmps75
    go_wp2_with (first | (go_at_call 32; refine (l01Angle_any _ _).mono ?_; rintro e w' ⟨rfl, rfl⟩; rw [H.out]) | (go_at_call 87; refine (l01Quarter_any _ (by omega) (by omega) _).mono ?_; rintro e w1 ⟨rfl, rfl⟩))
    go_ret
    exact ⟨rfl, rfl⟩
  · rw [if_neg c3]
    have r := (hs (256 - n)).resolve_right (by omega)
    clear hs
    go_enter Tryd.func75, Tryd.ntmps75
    go_wp2_with (first | (go_at_call 32; refine (l01Angle_any _ _).mono ?_; rintro e w' ⟨rfl, rfl⟩; rw [H.out]) | (go_at_call 87; refine (l01Quarter_any _ (by omega) (by omega) _).mono ?_; rintro e w1 ⟨rfl, rfl⟩))
    go_ret
    exact ⟨rfl, rfl⟩

theorem cos_ang2 (a : Int) : angB (angB a + 64) = angB (a + 64) := by unfold angB; omega

set_option maxHeartbeats 400000 in
theorem l01Cosine_any (a : Int) (w : World) :
    Calls Tryd.prog 58 #[.int .i64 a] w fun e w' => e = .returned (.float .f32 (cosB a)) ∧ w = w' := by
  have hl := angB_lo a
  have hh := angB_hi a
  have H := Lib.hid (cos_ang2 a)
  go_enter Tryd.func58, Tryd.ntmps58
  go_wp2_with (first | (go_at_call 32; refine (l01Angle_any _ _).mono ?_; rintro e w' ⟨rfl, rfl⟩) | (go_at_call 75; refine (l01Sine_any _ _).mono ?_; rintro e w1 ⟨rfl, rfl⟩))
  go_ret
  exact ⟨ret_f32 (by unfold cosB; rw [H.out]), rfl⟩

end Go.Proofs.YtpcmcopfdghdgaaDoor

namespace Go.Proofs.YtpcmcopfdghdgaaDoor
open Go.ChangeShapes Go.WideShapes Go.ChangeAt Go.RowKit

theorem okB_h {hs ts : List Int} (hh : hs.length = 24) (ht : ts.length = 24) (h : okB hs ts = true) (hour : Int) (h0 : 0 ≤ hour) (h1 : hour < 24) : -64 ≤ atH hs hour ∧ atH hs hour ≤ 64 :=
  inB_true ((okB_iff hs ts hh ht).1 h hour.toNat (by omega)).1

theorem okB_t {hs ts : List Int} (hh : hs.length = 24) (ht : ts.length = 24) (h : okB hs ts = true) (hour : Int) (h0 : 0 ≤ hour) (h1 : hour < 24) : 0 ≤ atH ts hour ∧ atH ts hour ≤ 255 :=
  inB_true ((okB_iff hs ts hh ht).1 h hour.toNat (by omega)).2

end Go.Proofs.YtpcmcopfdghdgaaDoor

namespace Go.Proofs.YtpcmcopfdghdgaaDoor
open Go.ChangeShapes Go.WideShapes Go.ChangeAt Go.RowKit

/-- The light of an hour on a window. -/
def fallOf (hs ts : List Int) (hour facing : Int) : Nat := fallB (atH hs hour) (atH ts hour - facing)

theorem i64_small (n : Int) (h0 : -100000 ≤ n) (h1 : n ≤ 100000) : IntKind.i64.wrap n = n := by
  simp [IntKind.wrap, IntKind.signed, IntKind.bits]
  omega

theorem litB_gt {l : Nat} (h : FloatKind.f32.format.order l 0 = some .gt) : litB l = l := if_pos h

theorem litB_no {l : Nat} {o : Ordering} (h : FloatKind.f32.format.order l 0 = some o) (ho : o ≠ .gt) : litB l = 0 := by
  unfold litB
  rw [h, if_neg (fun e => ho (by injection e))]

set_option maxRecDepth 100000 in
set_option maxHeartbeats 1000000 in
theorem fallAt_up (hs ts : List Int) (hh : hs.length = 24) (ht : ts.length = 24) (hour facing : Int) (hr0 : 0 ≤ hour) (hr1 : hour < 24) (hf0 : 0 ≤ facing) (hf1 : facing ≤ 255) (hx1 : atH hs hour ≤ 64) (hy0 : 0 ≤ atH ts hour) (hy1 : atH ts hour ≤ 255) (hpos : 0 < atH hs hour) (l : Nat) (hl : fmul (cosB (atH hs hour)) (cosB (angB (atH ts hour - facing))) = l) (o : Ordering) (ho : FloatKind.f32.format.order l 0 = some o) (w : World) :
    Calls Tryd.prog 43 #[.agg (sunC hs ts), .int .i64 hour, .int .i64 facing] w fun e w' => e = .returned (.float .f32 (litB l)) ∧ Below w.heap.size w w' := by
  have Hh := Lib.hid hh
  have Ht := Lib.hid ht
  have Hup := Lib.hid (upAt_any hs ts hh hour hr0 hr1)
  have hm := (mul_ok (cosB_num (atH hs hour)) (cosB_num (angB (atH ts hour - facing)))).1
  rw [hl] at hm
  have r : ∀ t w, (binOp .mul t (.float .f32 (cosB (atH hs hour))) (.float .f32 (cosB (angB (atH ts hour - facing))))).run Tryd.prog w = .ok (.float .f32 l) w := fun t w => run_float_arith w .mul t .f32 _ _ _ hm
  have hal := angB_lo (atH ts hour - facing)
  have hah := angB_hi (atH ts hour - facing)
  clear hh ht hm hl
  obtain ⟨k, rfl⟩ := Int.eq_ofNat_of_zero_le hr0
  have hk : k < 24 := by omega
  have ea : hs[k]?.getD 0 = atH hs (k : Int) := by unfold atH; rw [Int.toNat_natCast]
  have eb : ts[k]?.getD 0 = atH ts (k : Int) := by unfold atH; rw [Int.toNat_natCast]
  generalize atH hs (k : Int) = x at *
  generalize atH ts (k : Int) = y at *
  have Hx := Lib.hid ea
  have Hy := Lib.hid eb
  have hd : decide (0 < x) = true := decide_eq_true hpos
  rw [hd] at Hup
  clear hd ea eb
  cases o
  · have HL := Lib.hid (litB_no ho (by decide))
    go_enter Tryd.func43, Tryd.ntmps43
    go_upto_region 1 with (fail)
    refine abs_code (fun W => Below w.heap.size w W ∧ W.heap[w.heap.size]? = some (.cells (sunC hs ts) 37 (0, 0))) ⟨(Below.refl _ _).alloc (Nat.le_refl _) _, heap_alloc_new _ _⟩ ?_
    rintro W ⟨hb, h0⟩
    have H0 := Lib.hid h0
    clear h0
    go_wp2_with (first | (refine wpList_load_part rfl 37 _ rfl w.heap.size 0 48 rfl 37 (sunC hs ts) (0, 0) _ H0.out Tryd.underlying37 rfl info_sun (sun_fits _ _ Hh.out Ht.out) (sunC hs ts) (sun_all _ _ Hh.out Ht.out) ?_) | (go_at_call 65; refine (Hup.out _).mono ?_; rintro e W1 ⟨rfl, hb1⟩; replace H0 := Lib.hid (below_row hb1 H0.out); replace hb := hb.trans (hb1.mono hb.size); clear hb1; have hc1 := cell_sun_h H0.out Hh.out k hk; rw [Hx.out] at hc1; have hc2 := cell_sun_t H0.out Hh.out Ht.out k hk; rw [Hy.out] at hc2) | (go_at_call 66; refine (angleOf_any _ _).mono ?_; rintro e w' ⟨rfl, rfl⟩) | (go_at_call 67; refine (cosine_any _ (by omega) (by omega) _).mono ?_; rintro e W1 ⟨rfl, hb1⟩; replace H0 := Lib.hid (below_row hb1 H0.out); replace hb := hb.trans (hb1.mono hb.size); clear hb1))
    go_ret
    exact ⟨ret_f32 HL.out.symm, hb⟩
  · have HL := Lib.hid (litB_no ho (by decide))
    go_enter Tryd.func43, Tryd.ntmps43
    go_upto_region 1 with (fail)
    refine abs_code (fun W => Below w.heap.size w W ∧ W.heap[w.heap.size]? = some (.cells (sunC hs ts) 37 (0, 0))) ⟨(Below.refl _ _).alloc (Nat.le_refl _) _, heap_alloc_new _ _⟩ ?_
    rintro W ⟨hb, h0⟩
    have H0 := Lib.hid h0
    clear h0
    go_wp2_with (first | (refine wpList_load_part rfl 37 _ rfl w.heap.size 0 48 rfl 37 (sunC hs ts) (0, 0) _ H0.out Tryd.underlying37 rfl info_sun (sun_fits _ _ Hh.out Ht.out) (sunC hs ts) (sun_all _ _ Hh.out Ht.out) ?_) | (go_at_call 65; refine (Hup.out _).mono ?_; rintro e W1 ⟨rfl, hb1⟩; replace H0 := Lib.hid (below_row hb1 H0.out); replace hb := hb.trans (hb1.mono hb.size); clear hb1; have hc1 := cell_sun_h H0.out Hh.out k hk; rw [Hx.out] at hc1; have hc2 := cell_sun_t H0.out Hh.out Ht.out k hk; rw [Hy.out] at hc2) | (go_at_call 66; refine (angleOf_any _ _).mono ?_; rintro e w' ⟨rfl, rfl⟩) | (go_at_call 67; refine (cosine_any _ (by omega) (by omega) _).mono ?_; rintro e W1 ⟨rfl, hb1⟩; replace H0 := Lib.hid (below_row hb1 H0.out); replace hb := hb.trans (hb1.mono hb.size); clear hb1))
    go_ret
    exact ⟨ret_f32 HL.out.symm, hb⟩
  · have HL := Lib.hid (litB_gt ho)
    go_enter Tryd.func43, Tryd.ntmps43
    go_upto_region 1 with (fail)
    refine abs_code (fun W => Below w.heap.size w W ∧ W.heap[w.heap.size]? = some (.cells (sunC hs ts) 37 (0, 0))) ⟨(Below.refl _ _).alloc (Nat.le_refl _) _, heap_alloc_new _ _⟩ ?_
    rintro W ⟨hb, h0⟩
    have H0 := Lib.hid h0
    clear h0
    go_wp2_with (first | (refine wpList_load_part rfl 37 _ rfl w.heap.size 0 48 rfl 37 (sunC hs ts) (0, 0) _ H0.out Tryd.underlying37 rfl info_sun (sun_fits _ _ Hh.out Ht.out) (sunC hs ts) (sun_all _ _ Hh.out Ht.out) ?_) | (go_at_call 65; refine (Hup.out _).mono ?_; rintro e W1 ⟨rfl, hb1⟩; replace H0 := Lib.hid (below_row hb1 H0.out); replace hb := hb.trans (hb1.mono hb.size); clear hb1; have hc1 := cell_sun_h H0.out Hh.out k hk; rw [Hx.out] at hc1; have hc2 := cell_sun_t H0.out Hh.out Ht.out k hk; rw [Hy.out] at hc2) | (go_at_call 66; refine (angleOf_any _ _).mono ?_; rintro e w' ⟨rfl, rfl⟩) | (go_at_call 67; refine (cosine_any _ (by omega) (by omega) _).mono ?_; rintro e W1 ⟨rfl, hb1⟩; replace H0 := Lib.hid (below_row hb1 H0.out); replace hb := hb.trans (hb1.mono hb.size); clear hb1))
    go_ret
    exact ⟨ret_f32 HL.out.symm, hb⟩

set_option maxRecDepth 100000 in
set_option maxHeartbeats 1000000 in
theorem fallAt_any (hs ts : List Int) (hh : hs.length = 24) (ht : ts.length = 24) (hour facing : Int) (hr0 : 0 ≤ hour) (hr1 : hour < 24) (hf0 : 0 ≤ facing) (hf1 : facing ≤ 255) (hx1 : atH hs hour ≤ 64) (hy0 : 0 ≤ atH ts hour) (hy1 : atH ts hour ≤ 255) (w : World) :
    Calls Tryd.prog 43 #[.agg (sunC hs ts), .int .i64 hour, .int .i64 facing] w fun e w' => e = .returned (.float .f32 (fallOf hs ts hour facing)) ∧ Below w.heap.size w w' := by
  by_cases hpos : 0 < atH hs hour
  · obtain ⟨o, ho⟩ := order_some (mul_ok (cosB_num (atH hs hour)) (cosB_num (angB (atH ts hour - facing)))).2 zero_fin
    have e : fallOf hs ts hour facing = litB (fmul (cosB (atH hs hour)) (cosB (angB (atH ts hour - facing)))) := by
      unfold fallOf fallB
      rw [if_pos hpos, cosB_ang]
    rw [e]
    exact fallAt_up hs ts hh ht hour facing hr0 hr1 hf0 hf1 hx1 hy0 hy1 hpos _ rfl o ho w
  · have HR : Hid (fallOf hs ts hour facing = 0) := if_neg hpos
    have Hh := Lib.hid hh
    have Ht := Lib.hid ht
    have Hup := Lib.hid (upAt_any hs ts hh hour hr0 hr1)
    have hd : decide (0 < atH hs hour) = false := decide_eq_false hpos
    rw [hd] at Hup
    clear hh ht hd hpos hx1 hy0 hy1
    go_enter Tryd.func43, Tryd.ntmps43
    go_upto_region 1 with (fail)
    refine abs_code (fun W => Below w.heap.size w W ∧ W.heap[w.heap.size]? = some (.cells (sunC hs ts) 37 (0, 0))) ⟨(Below.refl _ _).alloc (Nat.le_refl _) _, heap_alloc_new _ _⟩ ?_
    rintro W ⟨hb, h0⟩
    have H0 := Lib.hid h0
    clear h0
    go_wp2_with (first | (refine wpList_load_part rfl 37 _ rfl w.heap.size 0 48 rfl 37 (sunC hs ts) (0, 0) _ H0.out Tryd.underlying37 rfl info_sun (sun_fits _ _ Hh.out Ht.out) (sunC hs ts) (sun_all _ _ Hh.out Ht.out) ?_) | (go_at_call 65; refine (Hup.out _).mono ?_; rintro e W1 ⟨rfl, hb1⟩; replace H0 := Lib.hid (below_row hb1 H0.out); replace hb := hb.trans (hb1.mono hb.size); clear hb1))
    go_ret
    exact ⟨ret_f32 HR.out.symm, hb⟩

set_option maxRecDepth 100000 in
set_option maxHeartbeats 1000000 in
theorem l01Fall_up (b : Nat) (hs ts : List Int) (hh : hs.length = 24) (ht : ts.length = 24) (hour facing : Int) (hr0 : 0 ≤ hour) (hr1 : hour < 24) (hf0 : 0 ≤ facing) (hf1 : facing ≤ 255) (hx1 : atH hs hour ≤ 64) (hy0 : 0 ≤ atH ts hour) (hy1 : atH ts hour ≤ 255) (t : TypeId) (fr : Nat × Nat) (hpos : 0 < atH hs hour) (l : Nat) (hl : fmul (cosB (atH hs hour)) (cosB (atH ts hour - facing)) = l) (o : Ordering) (ho : FloatKind.f32.format.order l 0 = some o) (w : World) (hg : w.heap[b]? = some (.cells (sunC hs ts) t fr)) :
    Calls Tryd.prog 31 #[.pointer (some ⟨b, 0, none⟩), .int .i64 hour, .int .i64 facing] w fun e w' => e = .returned (.float .f32 (litB l)) ∧ Below w.heap.size w w' := by
  have hm := (mul_ok (cosB_num (atH hs hour)) (cosB_num (atH ts hour - facing))).1
  rw [hl] at hm
  have r : ∀ t w, (binOp .mul t (.float .f32 (cosB (atH hs hour))) (.float .f32 (cosB (atH ts hour - facing)))).run Tryd.prog w = .ok (.float .f32 l) w := fun t w => run_float_arith w .mul t .f32 _ _ _ hm
  clear hm hl
  obtain ⟨k, rfl⟩ := Int.eq_ofNat_of_zero_le hr0
  have hk : k < 24 := by omega
  have ea : hs[k]?.getD 0 = atH hs (k : Int) := by unfold atH; rw [Int.toNat_natCast]
  have eb : ts[k]?.getD 0 = atH ts (k : Int) := by unfold atH; rw [Int.toNat_natCast]
  generalize atH hs (k : Int) = x at *
  generalize atH ts (k : Int) = y at *
  have Hx := Lib.hid ea
  have Hy := Lib.hid eb
  have hc1 := cell_sun_h hg hh k hk
  have hc2 := cell_sun_t hg hh ht k hk
  rw [Hx.out] at hc1
  rw [Hy.out] at hc2
  clear hg hh ht ea eb
  have HO := Lib.hid ho
  clear ho
  have q1 := i64_small x (by omega) (by omega)
  have q2 := i64_small y (by omega) (by omega)
  have q3 := i64_small (y - facing) (by omega) (by omega)
  go_enter Tryd.func31, Tryd.ntmps31
  go_wp2
  refine wp_region_held_drew (S := (fun W => W.cell? ⟨b, k, none⟩ = some (.int .i16 x) ∧ W.cell? ⟨b, 24 + k, none⟩ = some (.int .i16 y) ∧ Below w.heap.size w W)) (by kernel_rfl) ⟨by simpa using hc1, by simpa using hc2, (Below.refl _ _).drew⟩ (fun hHeld => ?_)
  refine take_at (i := 0) (d := 15) (v := ?_) rfl rfl (by kernel_rfl) (by kernel_rfl) (by kernel_rfl) (fun _ _ _ h => h) (Or.inl ⟨by rfl, ?hy0u5⟩) hHeld ?rest0u5
  case hy0u5 =>
    intro w' hS'
    obtain ⟨s1, s2, _⟩ := hS'
    go_simp
    try with_reducible rfl
  simp only [List.setIfInBounds_toArray, List.set_cons_zero, List.set_cons_succ]
  refine take_at (i := 1) (d := 16) (v := ?_) rfl rfl (by kernel_rfl) (by kernel_rfl) (by kernel_rfl) (fun _ _ _ h => h) (Or.inl ⟨by rfl, ?hy1u6⟩) hHeld ?rest1u6
  case hy1u6 =>
    intro w' hS'
    obtain ⟨s1, s2, _⟩ := hS'
    go_simp
    try with_reducible rfl
  simp only [List.setIfInBounds_toArray, List.set_cons_zero, List.set_cons_succ]
  refine take_at (i := 2) (d := 17) (v := ?_) rfl rfl (by kernel_rfl) (by kernel_rfl) (by kernel_rfl) (fun _ _ _ h => h) (Or.inl ⟨by rfl, ?hy2u7⟩) hHeld ?rest2u7
  case hy2u7 =>
    intro w' hS'
    obtain ⟨s1, s2, _⟩ := hS'
    go_simp
    try with_reducible rfl
  simp only [List.setIfInBounds_toArray, List.set_cons_zero, List.set_cons_succ]
  refine take_at (i := 3) (d := 18) (v := ?_) rfl rfl (by kernel_rfl) (by kernel_rfl) (by kernel_rfl) (fun _ _ _ h => h) (Or.inl ⟨by rfl, ?hy3u8⟩) hHeld ?rest3u8
  case hy3u8 =>
    intro w' hS'
    obtain ⟨s1, s2, _⟩ := hS'
    go_simp
    try with_reducible rfl
  simp only [List.setIfInBounds_toArray, List.set_cons_zero, List.set_cons_succ]
  refine take_at (i := 4) (d := 19) (v := ?_) rfl rfl (by kernel_rfl) (by kernel_rfl) (by kernel_rfl) (fun _ _ _ h => h) (Or.inl ⟨by rfl, ?hy4u9⟩) hHeld ?rest4u9
  case hy4u9 =>
    intro w' hS'
    obtain ⟨s1, s2, _⟩ := hS'
    go_simp
    try with_reducible rfl
  simp only [List.setIfInBounds_toArray, List.set_cons_zero, List.set_cons_succ]
  refine take_at (i := 5) (d := 20) (v := ?_) rfl rfl (by kernel_rfl) (by kernel_rfl) (by kernel_rfl) (fun _ _ _ h => h) (Or.inl ⟨by rfl, ?hy5u10⟩) hHeld ?rest5u10
  case hy5u10 =>
    intro w' hS'
    obtain ⟨s1, s2, _⟩ := hS'
    go_simp
    try with_reducible rfl
  simp only [List.setIfInBounds_toArray, List.set_cons_zero, List.set_cons_succ]
  refine take_at (i := 6) (d := 21) (v := ?_) rfl rfl (by kernel_rfl) (by kernel_rfl) (by kernel_rfl) (fun _ _ _ h => h) (Or.inl ⟨by rfl, ?hy6u11⟩) hHeld ?rest6u11
  case hy6u11 =>
    intro w' hS'
    obtain ⟨s1, s2, _⟩ := hS'
    go_simp
    try with_reducible rfl
  simp only [List.setIfInBounds_toArray, List.set_cons_zero, List.set_cons_succ]
  refine take_at (i := 8) (d := 23) (v := ?_) rfl rfl (by kernel_rfl) (by kernel_rfl) (by kernel_rfl) (fun _ _ _ h => h) (Or.inl ⟨by rfl, ?hy8u12⟩) hHeld ?rest8u12
  case hy8u12 =>
    intro w' hS'
    obtain ⟨s1, s2, _⟩ := hS'
    go_simp
    try with_reducible rfl
  simp only [List.setIfInBounds_toArray, List.set_cons_zero, List.set_cons_succ]
  refine take_at (i := 9) (d := 24) (v := ?_) rfl rfl (by kernel_rfl) (by kernel_rfl) (by kernel_rfl) (fun _ _ _ h => h) (Or.inl ⟨by rfl, ?hy9u13⟩) hHeld ?rest9u13
  case hy9u13 =>
    intro w' hS'
    obtain ⟨s1, s2, _⟩ := hS'
    go_simp
    try with_reducible rfl
  simp only [List.setIfInBounds_toArray, List.set_cons_zero, List.set_cons_succ]
  refine take_at (i := 10) (d := 25) (v := ?_) rfl rfl (by kernel_rfl) (by kernel_rfl) (by kernel_rfl) (fun _ _ _ h => h) (Or.inl ⟨by rfl, ?hy10u14⟩) hHeld ?rest10u14
  case hy10u14 =>
    intro w' hS'
    obtain ⟨s1, s2, _⟩ := hS'
    go_simp
    try with_reducible rfl
  simp only [List.setIfInBounds_toArray, List.set_cons_zero, List.set_cons_succ]
  refine take_at (i := 11) (d := 26) (v := ?_) rfl rfl (by kernel_rfl) (by kernel_rfl) (by kernel_rfl) (fun _ _ _ h => h) (Or.inl ⟨by rfl, ?hy11u15⟩) hHeld ?rest11u15
  case hy11u15 =>
    intro w' hS'
    obtain ⟨s1, s2, _⟩ := hS'
    go_simp
    try with_reducible rfl
  simp only [List.setIfInBounds_toArray, List.set_cons_zero, List.set_cons_succ]
  refine take_at (i := 12) (d := 27) (v := ?_) rfl rfl (by kernel_rfl) (by kernel_rfl) (by kernel_rfl) (fun _ _ _ h => h) (Or.inl ⟨by rfl, ?hy12u16⟩) hHeld ?rest12u16
  case hy12u16 =>
    intro w' hS'
    obtain ⟨s1, s2, _⟩ := hS'
    go_simp
    try with_reducible rfl
  simp only [List.setIfInBounds_toArray, List.set_cons_zero, List.set_cons_succ]
  refine take_at (i := 13) (d := 28) (v := ?_) rfl rfl (by kernel_rfl) (by kernel_rfl) (by kernel_rfl) (fun _ _ _ h => h) (Or.inl ⟨by rfl, ?hy13u17⟩) hHeld ?rest13u17
  case hy13u17 =>
    intro w' hS'
    obtain ⟨s1, s2, _⟩ := hS'
    go_simp
    try with_reducible rfl
  simp only [List.setIfInBounds_toArray, List.set_cons_zero, List.set_cons_succ]
  refine take_at (i := 14) (d := 29) (v := ?_) rfl rfl (by kernel_rfl) (by kernel_rfl) (by kernel_rfl) (fun _ _ _ h => h) (Or.inl ⟨by rfl, ?hy14u18⟩) hHeld ?rest14u18
  case hy14u18 =>
    intro w' hS'
    obtain ⟨s1, s2, _⟩ := hS'
    go_simp
    try with_reducible rfl
  simp only [List.setIfInBounds_toArray, List.set_cons_zero, List.set_cons_succ]
  refine take_at (i := 15) (d := 30) (v := ?_) rfl rfl (by kernel_rfl) (by kernel_rfl) (by kernel_rfl) (fun _ _ _ h => h) (Or.inl ⟨by rfl, ?hy15u19⟩) hHeld ?rest15u19
  case hy15u19 =>
    intro w' hS'
    obtain ⟨s1, s2, _⟩ := hS'
    go_simp
    try with_reducible rfl
  simp only [List.setIfInBounds_toArray, List.set_cons_zero, List.set_cons_succ]
  refine take_at (i := 16) (d := 31) (v := ?_) rfl rfl (by kernel_rfl) (by kernel_rfl) (by kernel_rfl) (fun _ _ _ h => h) (Or.inl ⟨by rfl, ?hy16u20⟩) hHeld ?rest16u20
  case hy16u20 =>
    intro w' hS'
    obtain ⟨s1, s2, _⟩ := hS'
    go_simp
    try with_reducible rfl
  simp only [List.setIfInBounds_toArray, List.set_cons_zero, List.set_cons_succ]
  refine wpAnyH_ready (rs := [7]) (by kernel_rfl) (by simp) ?_
  refine AllReadyH.cons rfl (fun K hK => ?_) AllReadyH.nil
  go_simp
  refine (l01Cosine_any _ _).mono ?_
  rintro e w' ⟨rfl, rfl⟩
  refine hK.out _ _ (hHeld) (fun hHeld2 => ?_)
  clear hK K
  replace hHeld := hHeld2
  clear hHeld2
  refine wpAnyH_ready (rs := [17]) (by kernel_rfl) (by simp) ?_
  refine AllReadyH.cons rfl (fun K hK => ?_) AllReadyH.nil
  go_simp
  refine (l01Cosine_any _ _).mono ?_
  rintro e w' ⟨rfl, rfl⟩
  refine hK.out _ _ (hHeld) (fun hHeld2 => ?_)
  clear hK K
  replace hHeld := hHeld2
  clear hHeld2
  refine take_at (i := 18) (d := 33) (v := ?_) rfl rfl (by kernel_rfl) (by kernel_rfl) (by kernel_rfl) (fun _ _ _ h => h) (Or.inl ⟨by rfl, ?hy18u21⟩) hHeld ?rest18u21
  case hy18u21 =>
    intro w' hS'
    obtain ⟨s1, s2, _⟩ := hS'
    go_simp
    try with_reducible rfl
  simp only [List.setIfInBounds_toArray, List.set_cons_zero, List.set_cons_succ]
  refine take_at (i := 19) (d := 7) (v := ?_) rfl rfl (by kernel_rfl) (by kernel_rfl) (by kernel_rfl) (fun _ _ _ h => h) (Or.inl ⟨by rfl, ?hy19u22⟩) hHeld ?rest19u22
  case hy19u22 =>
    intro w' hS'
    obtain ⟨s1, s2, _⟩ := hS'
    go_simp
    try with_reducible rfl
  simp only [List.setIfInBounds_toArray, List.set_cons_zero, List.set_cons_succ]
  refine wpAnyH_done (by kernel_rfl) ?_ _
  clear q1 q2 q3
  have ho := HO.out
  cases o
  · have HL := Lib.hid (litB_no ho (by decide))
    go_wp2
    go_ret
    exact ⟨ret_f32 HL.out.symm, hHeld.2.2⟩
  · have HL := Lib.hid (litB_no ho (by decide))
    go_wp2
    go_ret
    exact ⟨ret_f32 HL.out.symm, hHeld.2.2⟩
  · have HL := Lib.hid (litB_gt ho)
    go_wp2
    go_ret
    exact ⟨ret_f32 HL.out.symm, hHeld.2.2⟩

set_option maxRecDepth 100000 in
set_option maxHeartbeats 1000000 in
theorem l01Fall_any (b : Nat) (hs ts : List Int) (hh : hs.length = 24) (ht : ts.length = 24) (hour facing : Int) (hr0 : 0 ≤ hour) (hr1 : hour < 24) (hf0 : 0 ≤ facing) (hf1 : facing ≤ 255) (hx1 : atH hs hour ≤ 64) (hy0 : 0 ≤ atH ts hour) (hy1 : atH ts hour ≤ 255) (t : TypeId) (fr : Nat × Nat) (w : World) (hg : w.heap[b]? = some (.cells (sunC hs ts) t fr)) :
    Calls Tryd.prog 31 #[.pointer (some ⟨b, 0, none⟩), .int .i64 hour, .int .i64 facing] w fun e w' => e = .returned (.float .f32 (fallOf hs ts hour facing)) ∧ Below w.heap.size w w' := by
  by_cases hpos : 0 < atH hs hour
  · obtain ⟨o, ho⟩ := order_some (mul_ok (cosB_num (atH hs hour)) (cosB_num (atH ts hour - facing))).2 zero_fin
    have e : fallOf hs ts hour facing = litB (fmul (cosB (atH hs hour)) (cosB (atH ts hour - facing))) := by
      unfold fallOf fallB
      rw [if_pos hpos]
    rw [e]
    exact l01Fall_up b hs ts hh ht hour facing hr0 hr1 hf0 hf1 hx1 hy0 hy1 t fr hpos _ rfl o ho w hg
  · have HR : Hid (fallOf hs ts hour facing = 0) := if_neg hpos
    obtain ⟨k, rfl⟩ := Int.eq_ofNat_of_zero_le hr0
    have hk : k < 24 := by omega
    have ea : hs[k]?.getD 0 = atH hs (k : Int) := by unfold atH; rw [Int.toNat_natCast]
    have eb : ts[k]?.getD 0 = atH ts (k : Int) := by unfold atH; rw [Int.toNat_natCast]
    generalize atH hs (k : Int) = x at *
    generalize atH ts (k : Int) = y at *
    have Hx := Lib.hid ea
    have Hy := Lib.hid eb
    have hc1 := cell_sun_h hg hh k hk
    rw [Hx.out] at hc1
    clear hg hh ht ea eb
    go_enter Tryd.func31, Tryd.ntmps31
    go_wp2
    go_ret
    exact ⟨ret_f32 HR.out.symm, Below.refl _ _⟩

end Go.Proofs.YtpcmcopfdghdgaaDoor

namespace Go.Proofs.YtpcmcopfdghdgaaDoor
open Go.ChangeShapes Go.WideShapes Go.ChangeAt Go.RowKit

theorem isFacing_is (n : Int) (b : Bool) (h : inF n = b) (w : World) : Calls Tryd.prog 39 #[.int .i64 n] w fun e w' => e = .returned (.bool b) ∧ w = w' := by
  subst h; exact isFacing_any n w

theorem l01Faced_is (n : Int) (b : Bool) (h : inF n = b) (w : World) : Calls Tryd.prog 29 #[.int .i64 n] w fun e w' => e = .returned (.bool b) ∧ w = w' := by
  subst h; exact l01Faced_any n w

theorem inF_bd {n : Int} (h : inF n = true) : 0 ≤ n ∧ n ≤ 255 := inB_true h

end Go.Proofs.YtpcmcopfdghdgaaDoor

namespace Go.Proofs.YtpcmcopfdghdgaaDoor
open Go.ChangeShapes Go.WideShapes Go.ChangeAt Go.RowKit Go.Deep Go.Joins

attribute [local go_sem] run_store_f

def okAw (o dr gp tl : Nat) : Bool := betw o 0 1090519040 && betw dr 0 1073741824 && betw gp 0 1073741824 && betw tl 1040187392 1082130432

/-- The bounds of an awning that is valid. -/
structure AwOk (o dr gp tl : Nat) : Prop where
  o : o ≤ 1090519040 ∨ o = 2147483648
  d : dr ≤ 1073741824 ∨ dr = 2147483648
  g : gp ≤ 1073741824 ∨ gp = 2147483648
  t0 : 1040187392 ≤ tl
  t1 : tl ≤ 1082130432
theorem awok_of {o dr gp tl : Nat} (aw : AwWf o dr gp tl) (h : okAw o dr gp tl = true) : AwOk o dr gp tl := by
  simp only [okAw, Bool.and_eq_true] at h
  obtain ⟨⟨⟨h1, h2⟩, h3⟩, h4⟩ := h
  obtain ⟨a1, a2⟩ := betw_above aw.2.2.2 (by decide) (by decide) (by decide) h4
  exact ⟨betw_zero aw.1 (by decide) h1, betw_zero aw.2.1 (by decide) h2, betw_zero aw.2.2.1 (by decide) h3, a1, a2⟩

theorem ret_boolA {a b : Bool} (h : a = b) : Ending.returned (.bool a) = .returned (.bool b) := by rw [h]
/-- A comparison that has no answer yet, as a truth value. -/
theorem bin_geq (t : TypeId) (x y : Nat) (w : World) : (binOp .geq t (.float .f32 x) (.float .f32 y)).run Tryd.prog w = .ok (.bool (ge0 (FloatKind.f32.format.order x y))) w := by
  rcases h0 : FloatKind.f32.format.order x y with _ | (_ | _ | _) <;> simp [binOp, go_sem, Op.floatCmp, h0, ge0]
theorem bin_leq (t : TypeId) (x y : Nat) (w : World) : (binOp .leq t (.float .f32 x) (.float .f32 y)).run Tryd.prog w = .ok (.bool (le0 (FloatKind.f32.format.order x y))) w := by
  rcases h0 : FloatKind.f32.format.order x y with _ | (_ | _ | _) <;> simp [binOp, go_sem, Op.floatCmp, h0, le0]

end Go.Proofs.YtpcmcopfdghdgaaDoor

namespace Go.Proofs.YtpcmcopfdghdgaaDoor
open Go.ChangeShapes Go.WideShapes Go.ChangeAt Go.RowKit Go.Deep Go.Joins

/-- An hour and a facing that are in their ranges, and what a valid sun tells of the hour. -/
structure HrOk (hs ts : List Int) (hour fc : Int) : Prop where
  h0 : 0 ≤ hour
  h1 : hour < 24
  f0 : 0 ≤ fc
  f1 : fc ≤ 255
  x0 : -64 ≤ atH hs hour
  x1 : atH hs hour ≤ 64
  y0 : 0 ≤ atH ts hour
  y1 : atH ts hour ≤ 255

theorem hrok_of {hs ts : List Int} (hh : hs.length = 24) (ht : ts.length = 24) (ho : okB hs ts = true) {hour fc : Int} (h0 : 0 ≤ hour) (h1 : hour < 24) (hf : inF fc = true) : HrOk hs ts hour fc :=
  ⟨h0, h1, (inF_bd hf).1, (inF_bd hf).2, (okB_h hh ht ho hour h0 h1).1, (okB_h hh ht ho hour h0 h1).2, (okB_t hh ht ho hour h0 h1).1, (okB_t hh ht ho hour h0 h1).2⟩

theorem fall_gt {f : Nat} (f0 : 975015322 ≤ f) (f1 : f ≤ 1065353216) : FloatKind.f32.format.order f 0 = some .gt := by
  rw [order_pos (by omega) (by decide), Nat.compare_eq_gt.2 (by omega)]

theorem fall_eq : FloatKind.f32.format.order 0 0 = some .eq := by decide +kernel

theorem eq_one {q : Nat} (hq : q < 4294967296) (h : FloatKind.f32.format.order q 1065353216 = some .eq) : q = 1065353216 := by
  rcases word_cases q hq with c | c | c | c
  · rw [order_num c (.inl (by decide))] at h
    injection h with h
    have k := Int.compare_eq_eq.1 h
    rw [sv_pos (x := 1065353216) (by decide)] at k
    have p := rv_pos (r := 1065353216) (by decide)
    rcases c with c | ⟨c0, c1⟩
    · rw [sv_pos (x := q) (by omega)] at k
      exact rv_inj (by omega)
    · obtain ⟨r, rfl⟩ : ∃ r, q = 2147483648 + r := ⟨q - 2147483648, by omega⟩
      have := sv_neg_le r
      omega
  · subst c
    rw [(inf_order 1065353216 (.inl (by decide))).1] at h; cases h
  · subst c
    rw [(inf_order 1065353216 (.inl (by decide))).2] at h; cases h
  · rw [nan_order c] at h; cases h

theorem run_minq (q : Nat) (hq : q < 4294967296) (hf : fin32 q = true) (h0 : FloatKind.f32.format.order q 0 = some .gt) (ts : Array TypeId) (T : TypeId) (w : World) : (Builtin.min_ ts T #[.float .f32 q, .float .f32 1065353216]).run Tryd.prog w = .ok (.float .f32 (cutB q)) w := by
  obtain ⟨o, ho⟩ := order_some hf (num_fin (num_of_isNum (x := 1065353216) (.inl (by decide))))
  unfold cutB
  rw [if_pos h0]
  simp only [Builtin.min_, List.foldlM_cons, List.foldlM_nil, Builtin.min2, ho]
  cases o
  · rfl
  · have e := eq_one hq ho
    subst e; rfl
  · rfl

theorem cut_le0 {q : Nat} (h0 : FloatKind.f32.format.order q 0 = some .lt ∨ FloatKind.f32.format.order q 0 = some .eq) : cutB q = 0 := by
  unfold cutB
  rcases h0 with h0 | h0 <;> rw [h0] <;> rfl

theorem shB_zero (o dr gp tl : Nat) (x : Int) : shB o dr gp tl x 0 = 0 := rfl

theorem shB_pos {o dr gp tl : Nat} {x : Int} {f : Nat} (h : 975015322 ≤ f) : shB o dr gp tl x f = cutB (quoA o dr gp tl x f) := if_neg (by omega)

theorem run_qf (op : BinOp) (x y r : Nat) (h : floatBits op .f32 x y = some r) : ∀ t w, (binOp op t (.float .f32 x) (.float .f32 y)).run Tryd.prog w = .ok (.float .f32 r) w := fun t w => run_float_arith w op t .f32 x y r h



theorem fall_le {hs ts : List Int} {hour fc : Int} (k : HrOk hs ts hour fc) : fallOf hs ts hour fc ≤ 1065353216 := by
  by_cases x0 : 0 < atH hs hour
  · rcases fall_rng (atH hs hour) (atH ts hour - fc) x0 k.x1 with h | ⟨_, f1⟩
    · rw [show fallOf hs ts hour fc = 0 from h]; decide
    · exact f1
  · rw [show fallOf hs ts hour fc = 0 from if_neg x0]; decide

theorem shB_le {o dr gp tl : Nat} (aw : AwOk o dr gp tl) {hs ts : List Int} {hour fc : Int} (k : HrOk hs ts hour fc) : shB o dr gp tl (atH hs hour) (fallOf hs ts hour fc) ≤ 1065353216 := by
  by_cases x0 : 0 < atH hs hour
  · rcases fall_rng (atH hs hour) (atH ts hour - fc) x0 k.x1 with h | ⟨f0, f1⟩
    · rw [show fallOf hs ts hour fc = 0 from h, shB_zero]; decide
    · rw [shB_pos (f := fallOf hs ts hour fc) f0]
      obtain ⟨_, _, _, _, r5, _⟩ := shade_facts aw.o aw.d aw.g aw.t0 aw.t1 x0 k.x1 f0 f1
      exact cutB_le (quoA_lt r5)
  · rw [show fallOf hs ts hour fc = 0 from if_neg x0, shB_zero]; decide

/-- The light behind an awning at an hour. -/
def behOf (o dr gp tl : Nat) (hs ts : List Int) (hour fc : Int) : Nat := behB (fallOf hs ts hour fc) (shB o dr gp tl (atH hs hour) (fallOf hs ts hour fc))

theorem beh_le {o dr gp tl : Nat} (aw : AwOk o dr gp tl) {hs ts : List Int} {hour fc : Int} (k : HrOk hs ts hour fc) : behOf o dr gp tl hs ts hour fc ≤ 1065353216 := Nat.le_trans (beh_facts (fall_le k) (shB_le aw k)).2.2 (fall_le k)

end Go.Proofs.YtpcmcopfdghdgaaDoor

namespace Go.Proofs.YtpcmcopfdghdgaaDoor
open Go.ChangeShapes Go.WideShapes Go.ChangeAt Go.RowKit

theorem laidMet_skip {P : Program} {x y : String × DataW Unit} {r : List (String × DataW Unit)} {w : World} (h : laidMet P (x :: y :: r) w) : laidMet P (x :: r) w := by
  obtain ⟨ps, hv, hnd, hrows⟩ := h
  obtain ⟨n, d⟩ := x
  obtain ⟨m, e⟩ := y
  obtain ⟨g, t, cs, fuel, p, q, h1, h2, h3, h4, hq, rfl⟩ := hv
  obtain ⟨g', t', cs', fuel', p', q', _, _, _, _, hq', rfl⟩ := hq
  refine ⟨MemPlace.row ⟨g, 0, none⟩ cs.size ++ p ++ q', ⟨g, t, cs, fuel, p, q', h1, h2, h3, h4, hq', rfl⟩, ?_, fun b off hm => hrows b off ?_⟩
  · exact hnd.sublist (List.Sublist.append (List.Sublist.refl _) (List.sublist_append_right _ _))
  · rcases List.mem_append.1 hm with hm | hm
    · exact List.mem_append_left _ hm
    · exact List.mem_append_right _ (List.mem_append_right _ hm)

/-- The variables that the rows list, and what they hold. -/
def lst : List (String × DataW Unit) := [("loop.example/g01367/impl.errInvalid", Rows.laid_loop_example_g01367_impl_errInvalid), ("loop.example/g01367/impl.errRange", Rows.laid_loop_example_g01367_impl_errRange), ("loop.example/g01367/impl.errLimit", Rows.laid_loop_example_g01367_impl_errLimit), ("loop.example/g01367/impl.errNotFound", Rows.laid_loop_example_g01367_impl_errNotFound)]

theorem star_err : ("*" ++ "errors.errorString") = "*errors.errorString" := by decide
theorem row_err (u : TypeId) (h : Tryd.prog.typeName? 3 u = some "*errors.errorString") : u = 145 :=
  typeName_ptr_named (nm := "errors.errorString") (by rw [star_err]; kernel_rfl) (by kernel_rfl) (by decide) u (by rw [star_err]; exact h)
theorem g_inv : Tryd.prog.globalNamed "loop.example/g01367/impl.errInvalid" = some 0 := by kernel_rfl
theorem g_ran : Tryd.prog.globalNamed "loop.example/g01367/impl.errRange" = some 1 := by kernel_rfl
theorem g_lim : Tryd.prog.globalNamed "loop.example/g01367/impl.errLimit" = some 2 := by kernel_rfl
theorem g_not : Tryd.prog.globalNamed "loop.example/g01367/impl.errNotFound" = some 3 := by kernel_rfl
theorem gt_inv : (Tryd.prog.globals[0]?).map (·.type) = some 72 := by kernel_rfl
theorem gt_ran : (Tryd.prog.globals[1]?).map (·.type) = some 72 := by kernel_rfl
theorem gt_lim : (Tryd.prog.globals[2]?).map (·.type) = some 72 := by kernel_rfl
theorem gt_not : (Tryd.prog.globals[3]?).map (·.type) = some 72 := by kernel_rfl

/-- A sentinel's value. -/
def errV (a : Addr) : Value := .iface 145 (.pointer (some a))
/-- A place whose block is a row of cells that is not marked. -/
def Plain0 (W : World) (a : Addr) : Prop := ∃ c t, W.heap[a.block]? = some (.cells c t (0, 0))

/-- The four sentinels, each at a place of its own. -/
structure ErrsAt (W : World) (a0 a1 a2 a3 : Addr) : Prop where
  v0 : W.cell? ⟨0, 0, none⟩ = some (errV a0)
  v1 : W.cell? ⟨1, 0, none⟩ = some (errV a1)
  v2 : W.cell? ⟨2, 0, none⟩ = some (errV a2)
  v3 : W.cell? ⟨3, 0, none⟩ = some (errV a3)
  b0 : Plain0 W a0
  b1 : Plain0 W a1
  b2 : Plain0 W a2
  b3 : Plain0 W a3
  n01 : a0 ≠ a1
  n02 : a0 ≠ a2
  n03 : a0 ≠ a3
  n12 : a1 ≠ a2
  n13 : a1 ≠ a3
  n23 : a2 ≠ a3

theorem plain0_below {W W' : World} {a : Addr} (hb : Below W.heap.size W W') (h : Plain0 W a) : Plain0 W' a := by
  obtain ⟨c, t, h⟩ := h
  exact ⟨c, t, (hb.block _ (Array.getElem?_eq_some_iff.1 h).1).trans h⟩
theorem errs_below {W W' : World} {a0 a1 a2 a3 : Addr} (h : ErrsAt W a0 a1 a2 a3) (hb : Below W.heap.size W W') : ErrsAt W' a0 a1 a2 a3 :=
  have cb : ∀ {a : Addr} {v : Value}, W.cell? a = some v → W'.cell? a = some v := fun {a _} h => (hb.cell (World.block_lt_of_cell? W a h)).trans h
  ⟨cb h.v0, cb h.v1, cb h.v2, cb h.v3, plain0_below hb h.b0, plain0_below hb h.b1, plain0_below hb h.b2, plain0_below hb h.b3, h.n01, h.n02, h.n03, h.n12, h.n13, h.n23⟩

theorem two_of {n0 n1 : String} {t0 t1 : List UInt8} {r : List (String × DataW Unit)} {W : World} {g0 g1 : Nat}
    (h : laidMet Tryd.prog ((n0, .iface "*errors.errorString" (.ptr (.agg [.lit (.string t0)]))) :: (n1, .iface "*errors.errorString" (.ptr (.agg [.lit (.string t1)]))) :: r) W)
    (hg0 : Tryd.prog.globalNamed n0 = some g0) (ht0 : (Tryd.prog.globals[g0]?).map (·.type) = some 72) (hg1 : Tryd.prog.globalNamed n1 = some g1) (ht1 : (Tryd.prog.globals[g1]?).map (·.type) = some 72) :
    ∃ a0 a1, W.cell? ⟨g0, 0, none⟩ = some (errV a0) ∧ W.cell? ⟨g1, 0, none⟩ = some (errV a1) ∧ a0 ≠ a1 ∧ Plain0 W a0 ∧ Plain0 W a1 := by
  obtain ⟨a0, a1, s0, s1, c0, c1, u0, u1, v0, v1, _, _, _, _, _, _, hne, hb0, hb1⟩ := laid_sentinels2 h hg0 ht0 hg1 ht1 Tryd.underlying72 row_err Tryd.underlying145 Tryd.underlying172 rfl rfl Tryd.underlying9 (by kernel_rfl) (by kernel_rfl)
  exact ⟨a0, a1, by simpa [errV] using World.var?_cell hg0 v0 0, by simpa [errV] using World.var?_cell hg1 v1 0, hne, ⟨_, _, hb0⟩, ⟨_, _, hb1⟩⟩

theorem errV_inj {W : World} {p : Addr} {a b : Addr} (h : W.cell? p = some (errV a)) (k : W.cell? p = some (errV b)) : b = a := by
  rw [h] at k
  simp only [errV, Option.some.injEq, Value.iface.injEq, Value.pointer.injEq, true_and] at k
  exact k.symm

theorem errs_of {W : World} (h : laidMetH Tryd.prog lst W) : ∃ a0 a1 a2 a3, ErrsAt W a0 a1 a2 a3 := by
  have h' : laidMet Tryd.prog lst W := h
  obtain ⟨a0, a1, v0, v1, n01, b0, b1⟩ := two_of h' g_inv gt_inv g_ran gt_ran
  obtain ⟨x0, a2, w0, v2, n02, _, b2⟩ := two_of (laidMet_skip h') g_inv gt_inv g_lim gt_lim
  obtain ⟨y0, a3, z0, v3, n03, _, b3⟩ := two_of (laidMet_skip (laidMet_skip h')) g_inv gt_inv g_not gt_not
  obtain ⟨x1, x2, w1, w2, n12, _, _⟩ := two_of h'.tail g_ran gt_ran g_lim gt_lim
  obtain ⟨y1, x3, z1, w3, n13, _, _⟩ := two_of (laidMet_skip h'.tail) g_ran gt_ran g_not gt_not
  obtain ⟨y2, y3, z2, z3, n23, _, _⟩ := two_of h'.tail.tail g_lim gt_lim g_not gt_not
  obtain rfl := errV_inj v0 w0
  obtain rfl := errV_inj v0 z0
  obtain rfl := errV_inj v1 w1
  obtain rfl := errV_inj v1 z1
  obtain rfl := errV_inj v2 w2
  obtain rfl := errV_inj v2 z2
  obtain rfl := errV_inj v3 w3
  obtain rfl := errV_inj v3 z3
  exact ⟨_, _, _, _, v0, v1, v2, v3, b0, b1, b2, b3, n01, n02, n03, n12, n13, n23⟩

end Go.Proofs.YtpcmcopfdghdgaaDoor

namespace Go.Proofs.YtpcmcopfdghdgaaDoor
open Go.RowKit Go.Extern.Stop Go.Stop Go.Extern

/-- The handle of the sentinels' type. -/
noncomputable def errH : Value := typeHandle Tryd.prog 145
theorem is_typeOf (v : Value) (w : World) : (Extern.ReflectliteType.typeOf #[.iface 145 v]).run Tryd.prog w = .ok (.iface 132 (.agg #[errH])) w := by kernel_rfl
theorem is_comparable (w : World) : (Extern.ReflectliteType.method (fun t => do Extern.Rtype.noPackHeld "Comparable" t; (fun a => Value.bool a.comparable) <$> typeInfo t) #[.agg #[errH]]).run Tryd.prog w = .ok (.bool true) w := by kernel_rfl
theorem is_method (n : Nat) (v : Value) (w : World) : (Go.method (n + 1) 132 v "Comparable").run Tryd.prog w = .ok (117, v) w := by kernel_rfl
theorem is_comp : (Tryd.prog.info? 145).map (·.comparable) = some true := by kernel_rfl
theorem is_size : (Tryd.prog.info? 172).map (·.size) = some 1 := by kernel_rfl
theorem is_noIs (v : Value) (xT : TypeId) (w : World) : (Instr.typeAssert (.iface 145 v) xT 134 true).run Tryd.prog w = .ok (.tuple #[.nilIface, .bool false]) w := run_typeAssert_lacksB Tryd.underlying134 (by kernel_rfl) (by kernel_rfl) v xT w
theorem is_noUnwrap (v : Value) (xT : TypeId) (w : World) : (Instr.typeAssert (.iface 145 v) xT 137 true).run Tryd.prog w = .ok (.tuple #[.nilIface, .bool false]) w := run_typeAssert_lacksB Tryd.underlying137 (by kernel_rfl) (by kernel_rfl) v xT w
theorem is_noUnwraps (v : Value) (xT : TypeId) (w : World) : (Instr.typeAssert (.iface 145 v) xT 139 true).run Tryd.prog w = .ok (.tuple #[.nilIface, .bool false]) w := run_typeAssert_lacksB Tryd.underlying139 (by kernel_rfl) (by kernel_rfl) v xT w

set_option maxRecDepth 1000000 in
theorem is_same {W : World} (a : Addr) : Calls Tryd.prog 81 #[errV a, errV a, .bool true] W fun e w' => e = .returned (.bool true) ∧ W = w' := by
  obtain ⟨i, hi, hcmp⟩ := Option.map_eq_some_iff.1 is_comp
  obtain ⟨j, hj, hjs⟩ := Option.map_eq_some_iff.1 is_size
  have heq := fun w => run_eql_iface_ptr_same (P := Tryd.prog) w a Tryd.underlying72 Tryd.underlying145 hi hcmp hj
  unfold errV
  go_enter Tryd.func81, Tryd.ntmps81
  go_wp2
  go_loopw [0] (fun E wl => wl = W ∧ E = .iface 145 (.pointer (some a))) (fun _ _ => 0)
  case atStart => exact ⟨rfl, rfl⟩
  case round =>
    obtain ⟨rfl, rfl⟩ := hrel
    go_wp2
    go_ret
    exact ⟨rfl, rfl⟩

set_option maxRecDepth 1000000 in
theorem is_other {W : World} {a b : Addr} (hne : a ≠ b) (ha : Plain0 W a) (hb : Plain0 W b) : Calls Tryd.prog 81 #[errV a, errV b, .bool true] W fun e w' => e = .returned (.bool false) ∧ W = w' := by
  obtain ⟨i, hi, hcmp⟩ := Option.map_eq_some_iff.1 is_comp
  obtain ⟨j, hj, hjs⟩ := Option.map_eq_some_iff.1 is_size
  obtain ⟨ca, ta, ha⟩ := ha
  obtain ⟨cb, tb, hb⟩ := hb
  have heq := run_eql_iface_ptr_other (P := Tryd.prog) W Tryd.underlying72 Tryd.underlying145 hi hcmp hj (by rw [hjs]; decide) hne ha hb
  have nE := is_noIs
  have uE := is_noUnwrap
  have vE := is_noUnwraps
  unfold errV
  go_enter Tryd.func81, Tryd.ntmps81
  go_wp2
  go_loopw [0] (fun E wl => wl = W ∧ E = .iface 145 (.pointer (some a))) (fun _ _ => 0)
  case atStart => exact ⟨rfl, rfl⟩
  case round =>
    obtain ⟨rfl, rfl⟩ := hrel
    go_wp2
    go_ret
    exact ⟨rfl, rfl⟩

/-- errors.Is of an error and a sentinel. -/
def IsB (W : World) (E : Value) (b : Addr) (r : Bool) : Prop := Calls Tryd.prog 64 #[E, errV b] W fun e w' => e = .returned (.bool r) ∧ W = w'

set_option maxRecDepth 1000000 in
theorem isB_nil (W : World) (b : Addr) : IsB W .nilIface b false := by
  have hn := run_eql_iface_nil_left (P := Tryd.prog) W 145 (.pointer (some b)) Tryd.underlying72
  unfold IsB errV
  go_enter Tryd.func64, Tryd.ntmps64
  go_wp2
  go_ret
  exact ⟨rfl, rfl⟩

set_option maxRecDepth 1000000 in
theorem isB_some (W : World) (a b : Addr) (r : Bool) (h : Calls Tryd.prog 81 #[errV a, errV b, .bool true] W fun e w' => e = .returned (.bool r) ∧ W = w') : IsB W (errV a) b r := by
  have h10 := @run_callFunc_extern Tryd.prog 80 _ Extern.ReflectliteType.typeOf Tryd.func80 (by kernel_rfl) (by kernel_rfl) (by kernel_rfl) (by kernel_rfl)
  have h30 := @run_callFunc_extern Tryd.prog 117 _ (Extern.ReflectliteType.method fun t => do Extern.Rtype.noPackHeld "Comparable" t; pure (.bool (← typeInfo t).comparable)) Tryd.func117 (by kernel_rfl) (by kernel_rfl) (by kernel_rfl) (by kernel_rfl)
  have tT := is_typeOf
  have cT := is_comparable
  have mR := is_method
  unfold IsB
  unfold errV at *
  go_enter Tryd.func64, Tryd.ntmps64
  go_wp2_with (first | (go_at_call 81; refine h.mono ?_; rintro e w' ⟨rfl, rfl⟩) | go_in)
  go_ret
  exact ⟨rfl, rfl⟩

/-- The code of an error, told by which sentinel it is. -/
def errOf (a0 a1 a2 a3 : Addr) : Nat → Value
  | 0 => .nilIface
  | 1 => errV a0
  | 2 => errV a1
  | 3 => errV a2
  | _ => errV a3
def codeE : Nat → Int
  | 0 => 0
  | 1 => 1
  | 2 => 2
  | 3 => 3
  | _ => 6

theorem isB_of {W : World} {a0 a1 a2 a3 : Addr} (h : ErrsAt W a0 a1 a2 a3) (k : Nat) :
    IsB W (errOf a0 a1 a2 a3 k) a0 (k == 1) ∧ IsB W (errOf a0 a1 a2 a3 k) a1 (k == 2) ∧ IsB W (errOf a0 a1 a2 a3 k) a2 (k == 3) ∧ IsB W (errOf a0 a1 a2 a3 k) a3 (decide (4 ≤ k)) := by
  match k with
  | 0 => exact ⟨isB_nil _ _, isB_nil _ _, isB_nil _ _, isB_nil _ _⟩
  | 1 => exact ⟨isB_some _ _ _ _ (is_same _), isB_some _ _ _ _ (is_other h.n01 h.b0 h.b1), isB_some _ _ _ _ (is_other h.n02 h.b0 h.b2), isB_some _ _ _ _ (is_other h.n03 h.b0 h.b3)⟩
  | 2 => exact ⟨isB_some _ _ _ _ (is_other h.n01.symm h.b1 h.b0), isB_some _ _ _ _ (is_same _), isB_some _ _ _ _ (is_other h.n12 h.b1 h.b2), isB_some _ _ _ _ (is_other h.n13 h.b1 h.b3)⟩
  | 3 => exact ⟨isB_some _ _ _ _ (is_other h.n02.symm h.b2 h.b0), isB_some _ _ _ _ (is_other h.n12.symm h.b2 h.b1), isB_some _ _ _ _ (is_same _), isB_some _ _ _ _ (is_other h.n23 h.b2 h.b3)⟩
  | k + 4 =>
    have e : decide (4 ≤ k + 4) = true := decide_eq_true (by omega)
    have e1 : (k + 4 == 1) = false := by simp
    have e2 : (k + 4 == 2) = false := by simp
    have e3 : (k + 4 == 3) = false := by simp
    rw [e, e1, e2, e3]
    exact ⟨isB_some _ _ _ _ (is_other h.n03.symm h.b3 h.b0), isB_some _ _ _ _ (is_other h.n13.symm h.b3 h.b1), isB_some _ _ _ _ (is_other h.n23.symm h.b3 h.b2), isB_some _ _ _ _ (is_same _)⟩

set_option maxRecDepth 1000000 in
theorem codeOf_any {W : World} {a0 a1 a2 a3 : Addr} (h : ErrsAt W a0 a1 a2 a3) (k : Nat) :
    Calls Tryd.prog 40 #[errOf a0 a1 a2 a3 k] W fun e w' => e = .returned (.int .i64 (codeE k)) ∧ W = w' := by
  obtain ⟨i0, i1, i2, i3⟩ := isB_of h k
  have c0 := h.v0
  have c1 := h.v1
  have c2 := h.v2
  have c3 := h.v3
  unfold IsB at i0 i1 i2 i3
  have I0 := Lib.hid i0
  have I1 := Lib.hid i1
  have I2 := Lib.hid i2
  have I3 := Lib.hid i3
  clear i0 i1 i2 i3 h
  match k with
  | 0 =>
    go_enter Tryd.func40, Tryd.ntmps40
    go_wp2_with (first | (go_at_call 64; (with_reducible refine I0.out.mono ?_); rintro e w' ⟨rfl, rfl⟩) | (go_at_call 64; (with_reducible refine I1.out.mono ?_); rintro e w' ⟨rfl, rfl⟩) | (go_at_call 64; (with_reducible refine I2.out.mono ?_); rintro e w' ⟨rfl, rfl⟩) | (go_at_call 64; (with_reducible refine I3.out.mono ?_); rintro e w' ⟨rfl, rfl⟩))
    go_ret
    exact ⟨rfl, rfl⟩
  | 1 =>
    go_enter Tryd.func40, Tryd.ntmps40
    go_wp2_with (go_at_call 64; (with_reducible refine I0.out.mono ?_); rintro e w' ⟨rfl, rfl⟩)
    go_ret
    exact ⟨rfl, rfl⟩
  | 2 =>
    go_enter Tryd.func40, Tryd.ntmps40
    go_wp2_with (first | (go_at_call 64; (with_reducible refine I0.out.mono ?_); rintro e w' ⟨rfl, rfl⟩) | (go_at_call 64; (with_reducible refine I1.out.mono ?_); rintro e w' ⟨rfl, rfl⟩))
    go_ret
    exact ⟨rfl, rfl⟩
  | 3 =>
    go_enter Tryd.func40, Tryd.ntmps40
    go_wp2_with (first | (go_at_call 64; (with_reducible refine I0.out.mono ?_); rintro e w' ⟨rfl, rfl⟩) | (go_at_call 64; (with_reducible refine I1.out.mono ?_); rintro e w' ⟨rfl, rfl⟩) | (go_at_call 64; (with_reducible refine I2.out.mono ?_); rintro e w' ⟨rfl, rfl⟩))
    go_ret
    exact ⟨rfl, rfl⟩
  | k + 4 =>
    go_enter Tryd.func40, Tryd.ntmps40
    go_wp2_with (first | (go_at_call 64; (with_reducible refine I0.out.mono ?_); rintro e w' ⟨rfl, rfl⟩) | (go_at_call 64; (with_reducible refine I1.out.mono ?_); rintro e w' ⟨rfl, rfl⟩) | (go_at_call 64; (with_reducible refine I2.out.mono ?_); rintro e w' ⟨rfl, rfl⟩) | (go_at_call 64; (with_reducible refine I3.out.mono ?_); rintro e w' ⟨rfl, rfl⟩))
    go_ret
    exact ⟨rfl, rfl⟩

/-- Which error a call is refused with. -/
def refN (v r f : Bool) : Nat := if !v then 1 else if !r then 2 else if !f then 3 else 0

set_option maxRecDepth 1000000 in
theorem refusal_any {W : World} {a0 a1 a2 a3 : Addr} (h : ErrsAt W a0 a1 a2 a3) (v r f : Bool) :
    Calls Tryd.prog 35 #[.bool v, .bool r, .bool f] W fun e w' => e = .returned (errOf a0 a1 a2 a3 (refN v r f)) ∧ W = w' := by
  have c0 := h.v0
  have c1 := h.v1
  have c2 := h.v2
  cases v <;> cases r <;> cases f
  all_goals
    go_enter Tryd.func35, Tryd.ntmps35
    go_wp2
    go_ret
    exact ⟨rfl, rfl⟩

end Go.Proofs.YtpcmcopfdghdgaaDoor

namespace Go.Proofs.YtpcmcopfdghdgaaDoor
open Go.ChangeShapes Go.WideShapes Go.ChangeAt Go.RowKit Go.Deep Go.Joins

theorem codeE_ne {n : Nat} (h : n ≠ 0) : (codeE n != 0) = true := by
  match n, h with
  | 1, _ => rfl
  | 2, _ => rfl
  | 3, _ => rfl
  | n + 4, _ => rfl
theorem refN_ok {v r f : Bool} : refN v r f = 0 ↔ (v = true ∧ r = true ∧ f = true) := by cases v <;> cases r <;> cases f <;> decide





theorem cut_mid {q : Nat} {o1 : Ordering} (h0 : FloatKind.f32.format.order q 0 = some .gt) (h1 : FloatKind.f32.format.order q 1065353216 = some o1) (hn : o1 ≠ .gt) : cutB q = q := by
  unfold cutB
  rw [if_pos h0, h1, if_neg (fun e => hn (by injection e))]
theorem cut_top {q : Nat} (h0 : FloatKind.f32.format.order q 0 = some .gt) (h1 : FloatKind.f32.format.order q 1065353216 = some .gt) : cutB q = 1065353216 := by
  unfold cutB
  rw [if_pos h0, if_pos h1]

end Go.Proofs.YtpcmcopfdghdgaaDoor

namespace Go.Proofs.YtpcmcopfdghdgaaDoor
open Go.ChangeShapes Go.WideShapes Go.ChangeAt Go.RowKit Go.Deep Go.Joins

set_option maxRecDepth 100000 in
set_option maxHeartbeats 1000000 in
theorem checkTrees_any (sv : Value) (trs : List Tr) (hwf : ∀ x ∈ trs, TrWf x) (hs ts : List Int) (hh : hs.length = 24) (ht : ts.length = 24) (fine : Bool) (e0 e1 e2 e3 : Addr) (w : World) (hts : TreesAt w sv trs) (hE : ErrsAt w e0 e1 e2 e3) :
    Calls Tryd.prog 50 #[sv, .agg (sunC hs ts), .bool fine] w fun e w' => e = .returned (.int .i64 (codeE (refN (okTs trs && okB hs ts) fine true))) ∧ Below w.heap.size w w' := by
  have HV := Lib.hid (fun w h => implValidTrees_any sv trs hwf w h)
  have HT := Lib.hid hts
  have HS := Lib.hid (fun w => ValidSun_any hs ts hh ht w)
  clear hts hwf
  have Hh := Lib.hid hh
  have Ht := Lib.hid ht
  clear hh ht
  have HX := Lib.hid hE
  clear hE
  cases hv : okTs trs
  · rw [hv] at HV
    clear hv
    go_enter Tryd.func50, Tryd.ntmps50
    go_upto_region 1 with (fail)
    refine abs_world (fun W => W.heap[w.heap.size]? = some (.cells (sunC hs ts) 37 (0, 0)) ∧ Below w.heap.size w W) (⟨heap_alloc_new _ _, (Below.refl _ _).alloc (Nat.le_refl _) _⟩) ?_
    rintro W ⟨h0, hb⟩
    have H1 := Lib.hid h0
    clear h0
    replace HX := Lib.hid (errs_below HX.out hb)
    replace HT := Lib.hid (trees_below HT.out hb)
    go_wp2_with (first | (refine wpList_load_partG 37 _ rfl w.heap.size 0 48 rfl rfl 37 (sunC hs ts) (0, 0) _ H1.out Tryd.underlying37 rfl info_sun (sun_fits _ _ Hh.out Ht.out) _ (sun_all _ _ Hh.out Ht.out) ?_) | (go_at_call 71; refine (HV.out _ HT.out).mono ?_; rintro e W1 ⟨rfl, hb1⟩; replace H1 := Lib.hid (below_row hb1 H1.out); replace HX := Lib.hid (errs_below HX.out hb1); replace HT := Lib.hid (trees_below HT.out hb1); replace hb := hb.trans (hb1.mono hb.size); clear hb1) | (go_at_call 37; refine (HS.out _).mono ?_; rintro e W2 ⟨rfl, hb2⟩; replace H1 := Lib.hid (below_row hb2 H1.out); replace HX := Lib.hid (errs_below HX.out hb2); replace HT := Lib.hid (trees_below HT.out hb2); replace hb := hb.trans (hb2.mono hb.size); clear hb2) | (go_at_call 35; refine (refusal_any HX.out _ _ _).mono ?_; rintro e w3 ⟨rfl, rfl⟩) | (go_at_call 40; refine (codeOf_any HX.out _).mono ?_; rintro e w4 ⟨rfl, rfl⟩))
    go_ret
    exact ⟨rfl, hb⟩
  · rw [hv] at HV
    clear hv
    generalize hz : okB hs ts = z at *
    clear hz
    go_enter Tryd.func50, Tryd.ntmps50
    go_upto_region 1 with (fail)
    refine abs_world (fun W => W.heap[w.heap.size]? = some (.cells (sunC hs ts) 37 (0, 0)) ∧ Below w.heap.size w W) (⟨heap_alloc_new _ _, (Below.refl _ _).alloc (Nat.le_refl _) _⟩) ?_
    rintro W ⟨h0, hb⟩
    have H1 := Lib.hid h0
    clear h0
    replace HX := Lib.hid (errs_below HX.out hb)
    replace HT := Lib.hid (trees_below HT.out hb)
    go_wp2_with (first | (refine wpList_load_partG 37 _ rfl w.heap.size 0 48 rfl rfl 37 (sunC hs ts) (0, 0) _ H1.out Tryd.underlying37 rfl info_sun (sun_fits _ _ Hh.out Ht.out) _ (sun_all _ _ Hh.out Ht.out) ?_) | (go_at_call 71; refine (HV.out _ HT.out).mono ?_; rintro e W1 ⟨rfl, hb1⟩; replace H1 := Lib.hid (below_row hb1 H1.out); replace HX := Lib.hid (errs_below HX.out hb1); replace HT := Lib.hid (trees_below HT.out hb1); replace hb := hb.trans (hb1.mono hb.size); clear hb1) | (go_at_call 37; refine (HS.out _).mono ?_; rintro e W2 ⟨rfl, hb2⟩; replace H1 := Lib.hid (below_row hb2 H1.out); replace HX := Lib.hid (errs_below HX.out hb2); replace HT := Lib.hid (trees_below HT.out hb2); replace hb := hb.trans (hb2.mono hb.size); clear hb2) | (go_at_call 35; refine (refusal_any HX.out _ _ _).mono ?_; rintro e w3 ⟨rfl, rfl⟩) | (go_at_call 40; refine (codeOf_any HX.out _).mono ?_; rintro e w4 ⟨rfl, rfl⟩))
    go_ret
    exact ⟨rfl, hb⟩

theorem checkTrees_is (sv : Value) (trs : List Tr) (hwf : ∀ x ∈ trs, TrWf x) (hs ts : List Int) (hh : hs.length = 24) (ht : ts.length = 24) (fine : Bool) (e0 e1 e2 e3 : Addr) (n : Nat) (hn : refN (okTs trs && okB hs ts) fine true = n) (w : World) (hts : TreesAt w sv trs) (hE : ErrsAt w e0 e1 e2 e3) :
    Calls Tryd.prog 50 #[sv, .agg (sunC hs ts), .bool fine] w fun e w' => e = .returned (.int .i64 (codeE n)) ∧ Below w.heap.size w w' := by
  subst hn; exact checkTrees_any sv trs hwf hs ts hh ht fine e0 e1 e2 e3 w hts hE

set_option maxRecDepth 100000 in
set_option maxHeartbeats 1000000 in
theorem l04Shadow_any (sv : Value) (trs : List Tr) (hwf : ∀ x ∈ trs, TrWf x) (hs ts : List Int) (hh : hs.length = 24) (ht : ts.length = 24) (rb : ∀ x ∈ hs ++ ts, -32768 ≤ x ∧ x ≤ 32767) (fine : Bool) (g : Nat) (T : TypeId) (fr : Nat × Nat) (w : World) (hts : TreesAt w sv trs) (q : w.heap[g]? = some (.cells (sunC hs ts) T fr)) :
    Calls Tryd.prog 47 #[sv, .pointer (some ⟨g, 0, none⟩), .bool fine] w fun e w' => e = .returned (.int .i64 (codeE (refN (okTs trs && okB hs ts) fine true))) ∧ Below w.heap.size w w' := by
  have HV := Lib.hid (l04Trees_any sv trs hwf w hts)
  have HS := Lib.hid (fun w q => l01Ok_any g hs ts hh ht rb T fr w q)
  have Q := Lib.hid q
  clear hts q hh ht rb hwf
  cases h1 : okTs trs <;> rw [h1] at HV
  · clear h1 HS
    go_enter Tryd.func47, Tryd.ntmps47
    go_wp2_with (go_at_call 69; refine (HV.out).mono ?_; rintro e W1 ⟨rfl, hb1⟩; replace Q := Lib.hid (below_row hb1 Q.out))
    go_ret
    exact ⟨rfl, hb1⟩
  cases h2 : okB hs ts <;> rw [h2] at HS
  · clear h1 h2
    go_enter Tryd.func47, Tryd.ntmps47
    go_wp2_with (first | (go_at_call 69; refine (HV.out).mono ?_; rintro e W1 ⟨rfl, hb1⟩; replace Q := Lib.hid (below_row hb1 Q.out)) | (go_at_call 27; refine (HS.out _ Q.out).mono ?_; rintro e w' ⟨rfl, rfl⟩))
    go_ret
    exact ⟨rfl, hb1⟩
  clear h1 h2
  cases fine
  · go_enter Tryd.func47, Tryd.ntmps47
    go_wp2_with (first | (go_at_call 69; refine (HV.out).mono ?_; rintro e W1 ⟨rfl, hb1⟩; replace Q := Lib.hid (below_row hb1 Q.out)) | (go_at_call 27; refine (HS.out _ Q.out).mono ?_; rintro e w' ⟨rfl, rfl⟩))
    go_ret
    exact ⟨rfl, hb1⟩
  · go_enter Tryd.func47, Tryd.ntmps47
    go_wp2_with (first | (go_at_call 69; refine (HV.out).mono ?_; rintro e W1 ⟨rfl, hb1⟩; replace Q := Lib.hid (below_row hb1 Q.out)) | (go_at_call 27; refine (HS.out _ Q.out).mono ?_; rintro e w' ⟨rfl, rfl⟩))
    go_ret
    exact ⟨rfl, hb1⟩

theorem l04Shadow_is (sv : Value) (trs : List Tr) (hwf : ∀ x ∈ trs, TrWf x) (hs ts : List Int) (hh : hs.length = 24) (ht : ts.length = 24) (rb : ∀ x ∈ hs ++ ts, -32768 ≤ x ∧ x ≤ 32767) (fine : Bool) (n : Nat) (hn : refN (okTs trs && okB hs ts) fine true = n) (g : Nat) (T : TypeId) (fr : Nat × Nat) (w : World) (hts : TreesAt w sv trs) (q : w.heap[g]? = some (.cells (sunC hs ts) T fr)) :
    Calls Tryd.prog 47 #[sv, .pointer (some ⟨g, 0, none⟩), .bool fine] w fun e w' => e = .returned (.int .i64 (codeE n)) ∧ Below w.heap.size w w' := by
  subst hn; exact l04Shadow_any sv trs hwf hs ts hh ht rb fine g T fr w hts q

end Go.Proofs.YtpcmcopfdghdgaaDoor
