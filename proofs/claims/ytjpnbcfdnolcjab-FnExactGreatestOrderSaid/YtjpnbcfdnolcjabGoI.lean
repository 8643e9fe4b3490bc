/-
  The order with the greatest sum: the program.
-/
import Derived.Test.YtjpnbcfdnolcjabGoV
import Derived.ScopeJumps
import Derived.Laws.IdiomCopy
namespace Go.Proofs.Ytjpnbcfdnolcjab
open Go.ChangeShapes Go.WideShapes Go.ChangeAt Go.RowKit Go.Deep Go.Joins

attribute [local go_sem] run_store_f

theorem wp_scope_jumps6 {P : Program} {a : Act} {w : World} {Q : Exit → Act → World → Prop} {c rest : Code} (l : Nat) (J : Act → World → Prop) (μ : Act → World → Nat) (hf : findLabel c l = some (Code.seq Code.skip rest))
    (pass : ∀ a w, J a w → rest.wp P (Exit.jump l (fun a' w' => J a' w' ∧ μ a' w' < μ a w) Q) a w)
    (first : (∀ a w, J a w → rest.wp P (Exit.jump l J Q) a w) → c.wp P (Exit.jump l J Q) a w) : (Code.scope c).wp P Q a w := by
  refine wp_scope_jumps l J μ hf (first fun a w h => ?_) (fun a w h => wp_seq (wp_skip (pass a w h)))
  refine Code.wp_mono ?_ (pass a w h)
  intro e a' w' q
  cases e with
  | goto l' => exact ⟨q.1, q.2.1⟩
  | normal => exact q
  | exit id => exact q
  | ret => exact q
  | panic ch => exact q
  | outgrown => exact q

theorem jump_ret6 {l : Nat} {J : Act → World → Prop} {Q : Exit → Act → World → Prop} {a : Act} {w : World} (h : Q .ret a w) : Exit.jump l J Q .ret a w := h

def keyP (p : List Nat) : Nat := p.foldl (fun k x => 7 * k + x) 0

def upB : List (List Nat) → Bool
  | a :: b :: l => decide (keyP a < keyP b) && upB (b :: l)
  | _ => true

theorem perms_up : ∀ n, n < 7 → upB (permsL n) = true ∧ (permsL n).all (fun p => decide (keyP p < 1000000)) = true := by decide +kernel

theorem up_get : ∀ (l : List (List Nat)) (i : Nat) (a b : List Nat), upB l = true → l[i]? = some a → l[i + 1]? = some b → keyP a < keyP b
  | [], i, a, b, _, h, _ => by simp at h
  | [c], i, a, b, _, h, h2 => by simp at h2
  | c :: d :: l, i, a, b, hu, h, h2 => by
    have hu2 : (decide (keyP c < keyP d) && upB (d :: l)) = true := hu
    rw [Bool.and_eq_true] at hu2
    cases i with
    | zero =>
      obtain rfl : c = a := by simpa using h
      obtain rfl : d = b := by simpa using h2
      exact of_decide_eq_true hu2.1
    | succ i => exact up_get (d :: l) i a b hu2.2 (by simpa using h) (by simpa using h2)

def rowOf (V : World) (g n : Nat) : List Nat := (List.range n).map fun j => match V.cell? ⟨g, j, none⟩ with | some (.int _ z) => z.toNat | _ => 0

theorem rowOf_eq {V : World} {g : Nat} {o : List Nat} (h : IRow V g o) : rowOf V g o.length = o := by
  apply List.ext_getElem?
  intro j
  by_cases hj : j < o.length
  · have hc := (irow_cell h hj).1
    rw [rowOf, List.getElem?_map, List.getElem?_range hj, Option.map_some, hc, getD_get hj]
    simp
  · rw [List.getElem?_eq_none (by simp [rowOf]; omega), List.getElem?_eq_none (by omega)]

def muP (n : Nat) (a : Act) (V : World) : Nat := match a.tmps.getD 5 undef with | .slice (some p) _ _ => 1000000 - keyP (rowOf V p.block n) | _ => 0

/-- What is known of all orders of so many. -/
structure PermsOk (n : Nat) (ps : List (List Nat)) : Prop where
  pos : 0 < ps.length
  head : ps.getD 0 [] = List.range n
  len : ∀ i, i < ps.length → (ps.getD i []).length = n
  low : ∀ i, i < ps.length → ∀ x ∈ ps.getD i [], x < n
  nxt : ∀ i, i + 1 < ps.length → advS (ps.getD i []) = some (ps.getD (i + 1) [])
  last : ∀ i, i < ps.length → ¬ i + 1 < ps.length → advS (ps.getD i []) = none
  up : ∀ i, i + 1 < ps.length → keyP (ps.getD i []) < keyP (ps.getD (i + 1) [])
  top : ∀ i, i < ps.length → keyP (ps.getD i []) < 1000000

theorem getL_get {l : List (List Nat)} {i : Nat} (h : i < l.length) : l[i]? = some (l.getD i []) := by simp [List.getD, h]

theorem perms_ok {n : Nat} (hn : n < 7) : PermsOk n (permsL n) := by
  obtain ⟨a1, a2, a3, a4⟩ := perms_all n hn
  obtain ⟨b1, b2⟩ := perms_up n hn
  have hpos : 0 < (permsL n).length := by
    cases h : permsL n with
    | nil => rw [h] at a2; cases a2
    | cons p l => simp
  have good : ∀ i, i < (permsL n).length → ((permsL n).getD i []).length = n ∧ ∀ x ∈ (permsL n).getD i [], x < n := by
    intro i hi
    have := List.all_eq_true.1 a3 _ (List.mem_of_getElem? (getL_get hi))
    unfold goodB at this
    rw [Bool.and_eq_true] at this
    exact ⟨of_decide_eq_true this.1, fun x hx => of_decide_eq_true (List.all_eq_true.1 this.2 x hx)⟩
  refine ⟨hpos, ?_, fun i hi => (good i hi).1, fun i hi => (good i hi).2, fun i hi => ?_, fun i hi hl => ?_, fun i hi => ?_, fun i hi => ?_⟩
  · rw [List.head?_eq_getElem?, getL_get hpos] at a2
    exact Option.some.inj a2
  · rw [chain_get _ i _ a1 (getL_get (by omega)), getL_get hi]
  · rw [chain_get _ i _ a1 (getL_get hi), List.getElem?_eq_none (by omega)]
  · exact up_get _ i _ _ b1 (getL_get (by omega)) (getL_get hi)
  · exact of_decide_eq_true (List.all_eq_true.1 b2 _ (List.mem_of_getElem? (getL_get hi)))

theorem sum_facts {zs o : List Nat} (hq : ∀ z ∈ zs, PlnOk z) (h6 : o.length ≤ 48) (ho : ∀ x ∈ o, x < zs.length) : (∀ z ∈ o.map (fun i => zs.getD i 0), PlnOk z) ∧ isNum (sumP zs o) := by
  have h1 : ∀ z ∈ o.map (fun i => zs.getD i 0), PlnOk z := by
    intro z hz
    obtain ⟨i, hi, rfl⟩ := List.mem_map.1 hz
    exact hq _ (List.mem_of_getElem? (getD_get (ho i hi)))
  exact ⟨h1, (leftS_ok _ h1 (by simpa using h6)).1⟩

theorem st_facts {zs : List Nat} {n : Nat} {ps : List (List Nat)} (hp : PermsOk n ps) (hq : ∀ z ∈ zs, PlnOk z) (hn : zs.length = n) (h6 : n < 7) : ∀ i, i < ps.length → (stP zs ps i).1.length = n ∧ isNum (stP zs ps i).2
  | 0, h => ⟨hp.len 0 h, (sum_facts hq (by rw [hp.len 0 h]; omega) (by rw [hn]; exact hp.low 0 h)).2⟩
  | i + 1, h => by
    have ih := st_facts hp hq hn h6 i (by omega)
    have e : stP zs ps (i + 1) = updP zs (stP zs ps i) (ps.getD (i + 1) []) := rfl
    rw [e, updP]
    split
    · exact ⟨hp.len _ h, (sum_facts hq (by rw [hp.len _ h]; omega) (by rw [hn]; exact hp.low _ h)).2⟩
    · exact ih

theorem range_sum (zs : List Nat) : (List.range zs.length).map (fun i => zs.getD i 0) = zs := by
  apply List.ext_getElem?
  intro j
  by_cases hj : j < zs.length
  · rw [List.getElem?_map, List.getElem?_range hj, Option.map_some, getD_get hj]
  · rw [List.getElem?_eq_none (by simp; omega), List.getElem?_eq_none (by omega)]

def setL : List Nat → Nat → List Nat → List Nat
  | b, _, [] => b
  | b, k, x :: xs => setL (b.set k x) (k + 1) xs

theorem setL_len : ∀ (xs : List Nat) (k : Nat) (b : List Nat), (setL b k xs).length = b.length
  | [], _, _ => rfl
  | x :: xs, k, b => by rw [setL, setL_len xs (k + 1), List.length_set]

theorem setL_get : ∀ (xs : List Nat) (k : Nat) (b : List Nat) (j : Nat), j < b.length → (setL b k xs)[j]? = if k ≤ j ∧ j < k + xs.length then xs[j - k]? else b[j]?
  | [], k, b, j, hj => by
    have hno : ¬ (k ≤ j ∧ j < k + ([] : List Nat).length) := fun h => by simp at h; omega
    rw [setL, if_neg hno]
  | x :: xs, k, b, j, hj => by
    rw [setL, setL_get xs (k + 1) _ j (by rw [List.length_set]; exact hj)]
    by_cases e : j = k
    · subst e
      rw [if_neg (fun h => by omega), if_pos ⟨Nat.le_refl _, by simp⟩, List.getElem?_set, if_pos rfl, if_pos hj, Nat.sub_self]; rfl
    · by_cases c : k ≤ j ∧ j < k + (x :: xs).length
      · have c2 : k + 1 ≤ j ∧ j < k + 1 + xs.length := ⟨by omega, by have := c.2; simp at this; omega⟩
        rw [if_pos c, if_pos c2, show j - k = j - (k + 1) + 1 by omega, List.getElem?_cons_succ]
      · have c2 : ¬ (k + 1 ≤ j ∧ j < k + 1 + xs.length) := fun h => c ⟨by omega, by simp; omega⟩
        rw [if_neg c, if_neg c2, List.getElem?_set, if_neg (fun h => e h.symm)]

theorem setL_all {b o : List Nat} (h : b.length = o.length) : setL b 0 o = o := by
  apply List.ext_getElem?
  intro j
  by_cases hj : j < b.length
  · rw [setL_get o 0 b j hj, if_pos ⟨Nat.zero_le _, by omega⟩, Nat.sub_zero]
  · rw [List.getElem?_eq_none (by rw [setL_len]; omega), List.getElem?_eq_none (by omega)]

theorem irow_many {g : Nat} : ∀ (xs : List Nat) (k : Nat) (b : List Nat) (V : World), IRow V g b → IRow (V.setCells g k (xs.map encN)) g (setL b k xs)
  | [], _, _, _, h => h
  | x :: xs, k, b, _, h => irow_many xs (k + 1) (b.set k x) _ (irow_set h k x)

theorem many_grown {g : Nat} {W : World} : ∀ (xs : List Value) (k : Nat) (V : World), W.grownBy V (some g) → W.grownBy (V.setCells g k xs) (some g)
  | [], _, _, h => h
  | _ :: xs, k, _, h => many_grown xs (k + 1) _ (set_grown h)

theorem copy_row {V : World} {g1 g2 : Nat} {o b : List Nat} (h1 : IRow V g1 o) (h2 : IRow V g2 b) (hl : b.length = o.length) :
    ∃ V', (∀ ty, (Builtin.copy_ #[33, 33] ty #[.slice (some ⟨g2, 0, none⟩) o.length o.length, .slice (some ⟨g1, 0, none⟩) o.length o.length]).run Try.prog V = .ok (goInt o.length) V') ∧ IRow V' g2 o ∧ V.grownBy V' (some g2) := by
  obtain ⟨i0, hin, hz0, hz1, hz2⟩ := info_parts info_i64
  have hcs : (o.map encN).length = o.length := by simp
  have h := fun ty => run_copy_cells (P := Try.prog) V 33 33 ty 2 g2 0 o.length o.length ⟨g1, 0, none⟩ o.length o.length (o.map encN) Try.underlying33 (by rw [hin]; exact congrArg some hz1) (by rw [hcs]; exact (Nat.min_self _).symm)
    (fun j v hv => by
      rw [List.getElem?_map, Option.map_eq_some_iff] at hv
      obtain ⟨x, hx, rfl⟩ := hv
      have hj := (List.getElem?_eq_some_iff.1 hx).1
      have hc := (irow_cell h1 hj).1
      have e : o.getD j 0 = x := by simp [List.getD, hx]
      rw [e] at hc
      rw [addr_add, Nat.zero_add]; exact hc)
    (fun j hj => by rw [hcs] at hj; rw [Nat.zero_add, (irow_cell h2 (by omega)).1]; rfl)
    (fun j hj => by rw [hcs] at hj; rw [Nat.zero_add]; exact (irow_cell h2 (by omega)).2)
    (fun v hv => by obtain ⟨x, _, rfl⟩ := List.mem_map.1 hv; rfl)
  rw [hcs] at h
  refine ⟨_, h, ?_, ?_⟩
  · have := irow_many (g := g2) o 0 b V h2
    rwa [setL_all hl] at this
  · exact many_grown _ _ _ (below_grown6 (Below.refl _ _) g2)

theorem gt_casesG {a b : Nat} (ha : fin32 a = true) (hb : fin32 b = true) : (FloatKind.f32.format.order a b = some .gt ∧ gtG a b = true) ∨ (FloatKind.f32.format.order a b = some .eq ∧ gtG a b = false) ∨ (FloatKind.f32.format.order a b = some .lt ∧ gtG a b = false) := by
  obtain ⟨o, h⟩ := order_some ha hb
  unfold gtG
  cases o
  · right; right; exact ⟨h, by rw [h]; rfl⟩
  · right; left; exact ⟨h, by rw [h]; rfl⟩
  · left; exact ⟨h, by rw [h]; rfl⟩

def Ret3 (xs : List Int) (m : Nat) (c : Int) (w : World) (e : Ending) (w' : World) : Prop := (∃ v, e = .returned (.tuple #[v, .float .f32 m, .int .i64 c]) ∧ Own w' w.heap.size 2 (Value.int .i64) v xs) ∧ Below w.heap.size w w'

set_option maxRecDepth 100000 in
set_option maxHeartbeats 4000000 in
theorem advance_nil (g : Nat) (W : World) (h : IRow W g []) : Calls Try.prog 62 #[.slice (some ⟨g, 0, none⟩) 0 0] W (AdvRet [] g W) := by
  have HR := Lib.hid h
  have HADV : Hid (advS [] = none) := Lib.hid rfl
  clear h
  go_enter Try.func62, Try.ntmps62
  go_wp2
  go_loopw [3] (fun i wr => i = .int .i64 (-2) ∧ Below W.heap.size W wr) (fun _ _ => 0)
  case atStart => exact ⟨rfl, Below.refl _ _⟩
  case round =>
    obtain ⟨rfl, hb⟩ := hrel
    go_wp2
    refine wp_region_held_drew (S := (fun V => Below W.heap.size W V)) (by kernel_rfl) hb.drew (fun hHeld => ?_)
    refine take_op (i := 0) (d := 8) (v := ?_) rfl rfl (by kernel_rfl) (by kernel_rfl) (by kernel_rfl) (fun _ _ _ h => h) (Or.inl ⟨by rfl, ?hy0u65⟩) hHeld ?rest0u65
    case hy0u65 =>
      intro w' hS'
      go_simp
      try with_reducible rfl
    simp only [List.setIfInBounds_toArray, List.set_cons_zero, List.set_cons_succ]
    refine take_op (i := 1) (d := 9) (v := ?_) rfl rfl (by kernel_rfl) (by kernel_rfl) (by kernel_rfl) (fun _ _ _ h => h) (Or.inl ⟨by rfl, ?hy1u66⟩) hHeld ?rest1u66
    case hy1u66 =>
      intro w' hS'
      go_simp
      try with_reducible rfl
    simp only [List.setIfInBounds_toArray, List.set_cons_zero, List.set_cons_succ]
    refine take_op (i := 2) (d := 10) (v := ?_) rfl rfl (by kernel_rfl) (by kernel_rfl) (by kernel_rfl) (fun _ _ _ h => h) (Or.inl ⟨by rfl, ?hy2u67⟩) hHeld ?rest2u67
    case hy2u67 =>
      intro w' hS'
      go_simp
      try with_reducible rfl
    simp only [List.setIfInBounds_toArray, List.set_cons_zero, List.set_cons_succ]
    refine take_op (i := 3) (d := 11) rfl rfl (by kernel_rfl) (by kernel_rfl) (by kernel_rfl) (fun _ _ _ h => h) (Or.inr ⟨by rfl, rfl⟩) hHeld ?_
    simp only [List.setIfInBounds_toArray, List.set_cons_zero, List.set_cons_succ]
    refine take_op (i := 4) (d := 12) rfl rfl (by kernel_rfl) (by kernel_rfl) (by kernel_rfl) (fun _ _ _ h => h) (Or.inr ⟨by rfl, rfl⟩) hHeld ?_
    simp only [List.setIfInBounds_toArray, List.set_cons_zero, List.set_cons_succ]
    refine take_op (i := 5) (d := 13) rfl rfl (by kernel_rfl) (by kernel_rfl) (by kernel_rfl) (fun _ _ _ h => h) (Or.inr ⟨by rfl, rfl⟩) hHeld ?_
    simp only [List.setIfInBounds_toArray, List.set_cons_zero, List.set_cons_succ]
    refine take_op (i := 6) (d := 14) rfl rfl (by kernel_rfl) (by kernel_rfl) (by kernel_rfl) (fun _ _ _ h => h) (Or.inr ⟨by rfl, rfl⟩) hHeld ?_
    simp only [List.setIfInBounds_toArray, List.set_cons_zero, List.set_cons_succ]
    refine take_op (i := 7) (d := 15) rfl rfl (by kernel_rfl) (by kernel_rfl) (by kernel_rfl) (fun _ _ _ h => h) (Or.inr ⟨by rfl, rfl⟩) hHeld ?_
    simp only [List.setIfInBounds_toArray, List.set_cons_zero, List.set_cons_succ]
    refine take_op (i := 8) (d := 16) rfl rfl (by kernel_rfl) (by kernel_rfl) (by kernel_rfl) (fun _ _ _ h => h) (Or.inr ⟨by rfl, rfl⟩) hHeld ?_
    simp only [List.setIfInBounds_toArray, List.set_cons_zero, List.set_cons_succ]
    refine take_op (i := 9) (d := 17) rfl rfl (by kernel_rfl) (by kernel_rfl) (by kernel_rfl) (fun _ _ _ h => h) (Or.inr ⟨by rfl, rfl⟩) hHeld ?_
    simp only [List.setIfInBounds_toArray, List.set_cons_zero, List.set_cons_succ]
    refine take_op (i := 10) (d := 18) rfl rfl (by kernel_rfl) (by kernel_rfl) (by kernel_rfl) (fun _ _ _ h => h) (Or.inr ⟨by rfl, rfl⟩) hHeld ?_
    simp only [List.setIfInBounds_toArray, List.set_cons_zero, List.set_cons_succ]
    refine take_op (i := 11) (d := 19) rfl rfl (by kernel_rfl) (by kernel_rfl) (by kernel_rfl) (fun _ _ _ h => h) (Or.inr ⟨by rfl, rfl⟩) hHeld ?_
    simp only [List.setIfInBounds_toArray, List.set_cons_zero, List.set_cons_succ]
    refine take_op (i := 12) (d := 20) rfl rfl (by kernel_rfl) (by kernel_rfl) (by kernel_rfl) (fun _ _ _ h => h) (Or.inr ⟨by rfl, rfl⟩) hHeld ?_
    simp only [List.setIfInBounds_toArray, List.set_cons_zero, List.set_cons_succ]
    refine take_op (i := 13) (d := 21) (v := ?_) rfl rfl (by kernel_rfl) (by kernel_rfl) (by kernel_rfl) (fun _ _ _ h => h) (Or.inl ⟨by rfl, ?hy13u68⟩) hHeld ?rest13u68
    case hy13u68 =>
      intro w' hS'
      go_simp
      try with_reducible rfl
    simp only [List.setIfInBounds_toArray, List.set_cons_zero, List.set_cons_succ]
    refine wpAnyH_done (by kernel_rfl) ?_ _
    have hbx := hHeld
    clear hHeld hb
    go_wp2
    go_ret
    exact adv_no HADV.out HR.out hbx

set_option maxRecDepth 100000 in
set_option maxHeartbeats 16000000 in
theorem iGreatestOrder_yes (sv : Value) (zs : List Nat) (ho : okLs zs = true) (h7 : zs.length < 7) (hwf : ∀ z ∈ zs, (Lit.float .f32 z).wf = true) (w : World) (hz : FloatsAt w sv zs) :
    Calls Try.prog 31 #[sv] w (Ret3 ((stP zs (permsL zs.length) ((permsL zs.length).length - 1)).1.map fun (x : Nat) => (x : Int)) (stP zs (permsL zs.length) ((permsL zs.length).length - 1)).2 0 w) := by
  have HV := Lib.hid (ValidList_any sv zs w hz)
  rw [ho] at HV
  obtain ⟨h48, hq⟩ := okLs_get hwf ho
  have HADD0 := Lib.hid (fun W (hW : FloatsAt W sv zs) => added_any sv zs hq h48 W hW)
  have HF1 := Lib.hid (firstOrder_any zs.length h48 w)
  have HF2 := Lib.hid (firstOrder_any zs.length h48)
  unfold RowRet at HF1 HF2
  rw [List.length_range] at HF1
  simp only [List.length_range] at HF2
  have HZ := Lib.hid hz
  obtain ⟨aa, cap, rfl, hl, hm, _⟩ := hz
  unfold maxLen at hm
  have hp := perms_ok h7
  generalize permsL zs.length = ps at *
  have hps : ps.length - 1 < ps.length := by have := hp.pos; omega
  have HP1 : Hid (∀ i, i + 1 < ps.length → 1 ≤ (ps.getD i []).length) := Lib.hid (fun i hi => by
    rcases Nat.eq_zero_or_pos (ps.getD i []).length with h0 | h0
    · have h1 := hp.len i (by omega)
      have h2 := hp.nxt i hi
      have h3 : ps.getD i [] = [] := List.eq_nil_of_length_eq_zero h0
      rw [h3] at h2; cases h2
    · exact h0)
  clear ho hwf
  have z6 : (zs.length : Int) ≤ 6 := by omega
  go_enter Try.func31, Try.ntmps31
  go_wp2
  refine wp_scope_jumps6 0 (fun a' V => ∃ (i g1 g2 : Nat) (u8 u9 u10 u11 u12 u13 u14 u15 u16 u17 u18 u19 u20 u21 u22 u23 u24 u25 u26 u27 u28 u29 u30 u31 u32 u33 u34 u35 u36 u37 u38 : Value), a' = { tmps := #[.slice aa zs.length cap, undef, .slice none 0 0, .float .f32 0, .int .i64 0, .slice (some ⟨g1, 0, none⟩) zs.length zs.length, .slice (some ⟨g2, 0, none⟩) zs.length zs.length, .float .f32 (stP zs ps i).2, u8, u9, u10, u11, u12, u13, u14, u15, u16, u17, u18, u19, u20, u21, u22, u23, u24, u25, u26, u27, u28, u29, u30, u31, u32, u33, u34, u35, u36, u37, u38], defers := [] } ∧ i < ps.length ∧ w.heap.size ≤ g1 ∧ g1 < g2 ∧ IRow V g1 (ps.getD i []) ∧ IRow V g2 (stP zs ps i).1 ∧ Below w.heap.size w V) (muP zs.length) rfl ?pass ?first
  case pass =>
    rintro a' V ⟨i, g1, g2, u8, u9, u10, u11, u12, u13, u14, u15, u16, u17, u18, u19, u20, u21, u22, u23, u24, u25, u26, u27, u28, u29, u30, u31, u32, u33, u34, u35, u36, u37, u38, rfl, hi, hg1, hg12, r1, r2, hb⟩
    have hlen := hp.len i hi
    by_cases hl : i + 1 < ps.length
    · have hA := advance_any (ps.getD i []) g1 (HP1.out i hl) (by rw [hlen]; omega) V r1
      unfold AdvRet at hA
      rw [hp.nxt i hl, hlen] at hA
      have hst : stP zs ps (i + 1) = updP zs (stP zs ps i) (ps.getD (i + 1) []) := rfl
      have hlen2 := hp.len (i + 1) hl
      obtain ⟨hs1, hs2⟩ := sum_facts hq (o := ps.getD (i + 1) []) (by rw [hlen2]; omega) (hp.low (i + 1) hl)
      obtain ⟨hb1, hb2⟩ := st_facts hp hq rfl h7 i hi
      have HLow := Lib.hid (hp.low (i + 1) hl)
      have hkey := hp.up i hl
      have hkey2 := hp.top (i + 1) hl
      have hrow1 := rowOf_eq r1
      rw [hlen] at hrow1
      have HMU0 : Hid (∀ V', IRow V' g1 (ps.getD (i + 1) []) → 1000000 - keyP (rowOf V' g1 zs.length) < 1000000 - keyP (rowOf V g1 zs.length)) := Lib.hid (fun V' hr => by
        have h2 := rowOf_eq hr
        rw [hlen2] at h2
        rw [h2, hrow1]; omega)
      have hgt := gt_casesG (num_finN hs2) (num_finN hb2)
      have HST := Lib.hid hst
      have hR2 := r2
      unfold updP at hst
      clear hrow1 hkey hkey2 r1
      generalize ho2 : ps.getD (i + 1) [] = o2 at *
      have HO2 := Lib.hid ho2
      clear ho2
      have hsm : sumP zs o2 = leftS (o2.map fun i => zs.getD i 0) := rfl
      have HS1 := Lib.hid hs1
      have HLen2 := Lib.hid hlen2
      have HIN := Lib.hid (fun W hz hr => inOrder_any (.slice aa zs.length cap) zs o2 g1 (by rw [hlen2]; omega) HLow.out W hz hr)
      rw [hlen2] at HIN
      have HAdv := Lib.hid hA
      clear hA hs1
      have HADD := Lib.hid (fun v W (hv : FloatsAt W v (o2.map fun i => zs.getD i 0)) => added_any v _ HS1.out (by rw [List.length_map, HLen2.out]; omega) W hv)
      rw [← hsm] at HADD
      generalize hsm2 : sumP zs o2 = sm at *
      have HSm := Lib.hid hsm2
      clear hsm2
      generalize hmost : (stP zs ps i).2 = mo at *
      generalize hbest : (stP zs ps i).1 = be at *
      clear hsm hs2 hb2
      go_upto_region 9 with (go_at_call 62; refine HAdv.out.mono ?_; rintro e V1 ⟨rfl, hr1, hgr⟩)
      have hr1 : IRow V1 g1 o2 := hr1
      have hne : g2 ≠ g1 := by omega
      have hr2 := irow_other r2 hgr hne
      have hbx := hb.grown hgr hb.size (fun k e => by cases e; exact hg1)
      clear HAdv r2 hb hgr
      go_upto_region 10 with (first | (go_at_call 63; refine (HIN.out V1 (floats_below HZ.out hbx) hr1).mono ?_; rintro e V2 ⟨v, rfl, hv, hb2⟩; have HFv := Lib.hid hv; have HR1 := Lib.hid (irow_keep hr1 hb2); have HR2 := Lib.hid (irow_keep hr2 hb2); have HBX := Lib.hid (hbx.trans (hb2.mono hbx.size)); clear hv hb2) | (go_at_call 61; refine (HADD.out _ _ HFv.out).mono ?_; rintro e V3 ⟨rfl, rfl⟩))
      clear HIN HADD HFv hr1 hr2 hbx
      have HMo := Lib.hid hmost
      have HBe := Lib.hid hbest
      clear hst hmost hbest
      rcases hgt with ⟨h, e⟩ | ⟨h, e⟩ | ⟨h, e⟩
      · have HSTx : Hid (stP zs ps (i + 1) = (o2, sm)) := Lib.hid (by rw [HST.out, updP, HMo.out, HSm.out, if_pos e])
        clear e
        obtain ⟨V4, hcp, hr4, hg4⟩ := copy_row HR1.out HR2.out (by rw [hb1, HLen2.out])
        rw [HLen2.out] at hcp
        have HR4 := Lib.hid hr4
        have HR14 := Lib.hid (irow_other HR1.out hg4 (by omega))
        have HB4 := Lib.hid (HBX.out.grown hg4 HBX.out.size (fun k e => by cases e; omega))
        clear hr4 hg4
        go_wp2
        go_step3
        have e2 : sm = (stP zs ps (i + 1)).2 := by rw [HSTx.out]
        refine ⟨rfl, ⟨i + 1, g1, g2, _, _, _, _, _, _, _, _, _, _, _, _, _, _, _, _, _, _, _, _, _, _, _, _, _, _, _, _, _, _, _, by rw [← e2], hl, hg1, hg12, by rw [HO2.out]; exact HR14.out, by rw [HSTx.out]; exact HR4.out, HB4.out⟩, ?_⟩
        exact HMU0.out _ HR14.out
      · have HSTx : Hid (stP zs ps (i + 1) = stP zs ps i) := Lib.hid (by rw [HST.out, updP, HMo.out, HSm.out, if_neg (by rw [e]; decide)])
        clear e
        go_wp2
        go_step3
        have e2 : mo = (stP zs ps (i + 1)).2 := by rw [HSTx.out, HMo.out]
        refine ⟨rfl, ⟨i + 1, g1, g2, _, _, _, _, _, _, _, _, _, _, _, _, _, _, _, _, _, _, _, _, _, _, _, _, _, _, _, _, _, _, _, by rw [← e2], hl, hg1, hg12, by rw [HO2.out]; exact HR1.out, by rw [HSTx.out, HBe.out]; exact HR2.out, HBX.out⟩, ?_⟩
        exact HMU0.out _ HR1.out
      · have HSTx : Hid (stP zs ps (i + 1) = stP zs ps i) := Lib.hid (by rw [HST.out, updP, HMo.out, HSm.out, if_neg (by rw [e]; decide)])
        clear e
        go_wp2
        go_step3
        have e2 : mo = (stP zs ps (i + 1)).2 := by rw [HSTx.out, HMo.out]
        refine ⟨rfl, ⟨i + 1, g1, g2, _, _, _, _, _, _, _, _, _, _, _, _, _, _, _, _, _, _, _, _, _, _, _, _, _, _, _, _, _, _, _, by rw [← e2], hl, hg1, hg12, by rw [HO2.out]; exact HR1.out, by rw [HSTx.out, HBe.out]; exact HR2.out, HBX.out⟩, ?_⟩
        exact HMU0.out _ HR1.out
    · have hi2 : i = ps.length - 1 := by omega
      have hA : Calls Try.prog 62 #[.slice (some ⟨g1, 0, none⟩) zs.length zs.length] V (AdvRet (ps.getD i []) g1 V) := by
        rcases Nat.eq_zero_or_pos zs.length with h0 | h0
        · have h3 : ps.getD i [] = [] := List.eq_nil_of_length_eq_zero (by rw [hlen, h0])
          rw [h3] at r1 ⊢
          rw [h0]
          exact advance_nil g1 V r1
        · have := advance_any (ps.getD i []) g1 (by rw [hlen]; exact h0) (by rw [hlen]; omega) V r1
          rwa [hlen] at this
      unfold AdvRet at hA
      rw [hp.last i hi hl] at hA
      obtain ⟨hb1, _⟩ := st_facts hp hq rfl h7 i hi
      have HAdv := Lib.hid hA
      subst hi2
      clear hA hlen r1
      go_wp2_with (go_at_call 62; refine HAdv.out.mono ?_; rintro e V1 ⟨rfl, hr1, hgr⟩)
      have hr2 := irow_other r2 hgr (by omega)
      have hbx := hb.grown hgr hb.size (fun k e => by cases e; exact hg1)
      have hown := irow_own (B := w.heap.size) hr2 (by omega) (by rw [hb1]; omega)
      rw [hb1] at hown
      refine jump_ret6 ?_
      go_ret3
      exact ⟨⟨_, rfl, hown⟩, hbx⟩

  case first =>
    intro HK
    go_upto_region 5 with (go_at_call 53; refine HV.out.mono ?_; rintro e w' ⟨rfl, rfl⟩)
    go_upto_region 6 with (first | (go_at_call 60; (with_reducible refine HF1.out.mono ?_); rintro e W1 ⟨g1, rfl, hg1, hr1, hb1⟩; have hg1s := irow_lt hr1; clear HF1) | (go_at_call 60; refine (HF2.out W1).mono ?_; rintro e W2 ⟨g2, rfl, hg2, hr2, hb2⟩; have hr1b := irow_keep hr1 hb2; have hbx := hb1.trans (hb2.mono hb1.size)))
    go_upto_region 7 with (go_at_call 61; refine (HADD0.out W2 (floats_below HZ.out hbx)).mono ?_; rintro e w' ⟨rfl, rfl⟩)
    have e2 : leftS zs = (stP zs ps 0).2 := by rw [stP, hp.head, sumP, range_sum]
    have HR1 : Hid (IRow W2 g1 (ps.getD 0 [])) := Lib.hid (by rw [hp.head]; exact hr1b)
    have HR2 : Hid (IRow W2 g2 (stP zs ps 0).1) := Lib.hid (by rw [stP, hp.head]; exact hr2)
    have hpos := hp.pos
    clear hr1 hr1b hr2 HF2 HADD0 HV hb1 hb2
    rw [e2]
    go_wp2
    go_step3
    refine (‹∀ (a : Act) (w : World), Code.wp _ _ _ a w → _› _ _ (HK _ _ ⟨0, g1, g2, _, _, _, _, _, _, _, _, _, _, _, _, _, _, _, _, _, _, _, _, _, _, _, _, _, _, _, _, _, _, _, rfl, hpos, hg1, by omega, HR1.out, HR2.out, hbx⟩))

end Go.Proofs.Ytjpnbcfdnolcjab
