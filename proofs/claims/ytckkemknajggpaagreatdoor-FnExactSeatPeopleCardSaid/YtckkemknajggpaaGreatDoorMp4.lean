/-
  SpM, SpR, SpU, SbW, SpW, Open.
-/
import Derived.Test.YtckkemknajggpaaGreatDoorMp3
import Derived.Test.YtckkemknajggpaaGreatDoorMp2
import Derived.Test.YtckkemknajggpaaGreatDoorMp1
import Derived.Test.YtckkemknajggpaaGreatDoorLaw

namespace Go.Proofs.YtckkemknajggpaaGreatDoor
open Go.ChangeShapes Go.WideShapes Go.ChangeAt Go.RowKit Go.Deep Go.Joins

attribute [local go_sem] run_store_f

/-- The best seats: a list made behind the search's own row, or the empty one with which it begins. -/
def BestAt (base b : Nat) (V : World) (v : Value) (xs : List Int) : Prop := Own V (b + 1) 2 (Value.int .i64) v xs ∨ (xs = [] ∧ ∃ g, v = .slice (some ⟨g, 0, none⟩) 0 0 ∧ base ≤ g ∧ V.heap[g]? = some (.cells #[] 2 (0, 0)))

theorem best_own {base b : Nat} {V : World} {v : Value} {xs : List Int} (h : BestAt base b V v xs) (hb : base ≤ b) : Own V base 2 (Value.int .i64) v xs := by
  rcases h with h | ⟨rfl, g, rfl, hg, hr⟩
  · exact own_below h (Below.refl _ _) (by omega)
  · exact ⟨_, 0, rfl, Nat.zero_le _, Nat.le_refl _, .inr ⟨g, _, rfl, hg, hr, fun k hk => by simp at hk⟩⟩

/-- What the model's search keeps. -/
structure MS (W0 : World) (wv : Value) (n b : Nat) (st : List Int × Int) (V : World) : Prop where
  h : ∃ v, V.heap[b]? = some (.cells #[wv, .int .i64 (n : Int), v, .int .i64 st.2] 58 (0, 0)) ∧ BestAt W0.heap.size b V v st.1
  hb : Below W0.heap.size W0 V
  b0 : W0.heap.size ≤ b

/-- All rows but one are as they were. -/
def KB (b : Nat) (V V' : World) : Prop := V.heap.size ≤ V'.heap.size ∧ ∀ g, g < V.heap.size → g ≠ b → V'.heap[g]? = V.heap[g]?

theorem KB.refl (b : Nat) (V : World) : KB b V V := ⟨Nat.le_refl _, fun _ _ _ => rfl⟩

theorem KB.trans {b : Nat} {U V W : World} (h : KB b U V) (h' : KB b V W) : KB b U W := ⟨Nat.le_trans h.1 h'.1, fun g hg hn => (h'.2 g (Nat.lt_of_lt_of_le hg h.1) hn).trans (h.2 g hg hn)⟩

theorem KB.below {b : Nat} {V V' : World} (h : Below V.heap.size V V') : KB b V V' := ⟨h.size, fun g hg _ => h.block g hg⟩

theorem KB.set {b j : Nat} {U V : World} {v : Value} (h : KB b U V) : KB b U (V.setCell ⟨b, j, none⟩ v) :=
  ⟨by have := h.1; simpa using this, fun g hg hn => (heap_setCell_other _ _ _ _ (by simp; omega)).trans (h.2 g hg hn)⟩

theorem own_kb {b : Nat} {V V' : World} {v : Value} {xs : List Int} (h : Own V (b + 1) 2 (Value.int .i64) v xs) (hk : KB b V V') : Own V' (b + 1) 2 (Value.int .i64) v xs := by
  obtain ⟨a, cap, e1, e2, e3, e4⟩ := h
  refine ⟨a, cap, e1, e2, e3, e4.imp id ?_⟩
  rintro ⟨g, cur, e, hg, hc, hx⟩
  exact ⟨g, cur, e, hg, (hk.2 g (row_lt hc) (by omega)).trans hc, hx⟩

section
variable {W0 : World} {wv : Value} {n b : Nat} {st : List Int × Int}

theorem MS.below {V V' : World} (h : MS W0 wv n b st V) (hb : Below V.heap.size V V') : MS W0 wv n b st V' := by
  obtain ⟨v, h2, ho⟩ := h.h
  exact ⟨⟨v, below_row hb h2, ho.imp (fun ho => own_below ho hb (Nat.le_refl _)) (fun ⟨e, g, e2, e3, hr⟩ => ⟨e, g, e2, e3, below_row hb hr⟩)⟩, h.hb.trans (hb.mono h.hb.size), h.b0⟩

theorem MS.cells {V : World} (h : MS W0 wv n b st V) : V.cell? ⟨b, 0, none⟩ = some wv ∧ V.cell? ⟨b, 1, none⟩ = some (.int .i64 (n : Int)) ∧ V.cell? ⟨b, 3, none⟩ = some (.int .i64 st.2) := by
  obtain ⟨v, h2, -⟩ := h.h
  exact ⟨cell_k (k := 0) h2 rfl, cell_k (k := 1) h2 rfl, cell_k (k := 3) h2 rfl⟩

theorem MS.best {V : World} {v : Value} {c : Int} {s : List Int} (h : MS W0 wv n b st V) (ho : Own V (b + 1) 2 (Value.int .i64) v s) : MS W0 wv n b (s, c) ((V.setCell ⟨b, 2, none⟩ v).setCell ⟨b, 3, none⟩ (.int .i64 c)) := by
  obtain ⟨v0, h2, -⟩ := h.h
  refine ⟨⟨v, heap_setCell_same _ _ _ _ _ _ (heap_setCell_same _ _ _ _ _ _ h2), Or.inl (own_kb ho ((KB.refl _ _).set.set))⟩, (h.hb.setCell (p := ⟨b, 2, none⟩) h.b0 _).setCell (p := ⟨b, 3, none⟩) h.b0 _, h.b0⟩
end

/-- The cells of a list of one's own. -/
theorem own_cellsM {V : World} {b : Nat} {g c : Nat} {m : Nat} {xs : List Int} (h : Own V (b + 1) 2 (Value.int .i64) (.slice (some ⟨g, 0, none⟩) m c) xs) {j : Nat} {u : Value} (hu : (xs.map (Value.int .i64))[j]? = some u) : V.cell? ((⟨g, 0, none⟩ : Addr).add j) = some u := by
  obtain ⟨a, cap, e1, e2, e3, e4⟩ := h
  injection e1 with e1 _ _
  subst e1
  rw [addr_add, Nat.zero_add]
  rcases e4 with ⟨e4, -⟩ | ⟨g', cur, e, hg, hc, hx⟩
  · cases e4
  · obtain rfl : g = g' := by simpa using e
    have hj : j < xs.length := by have := (List.getElem?_eq_some_iff.1 hu).1; simpa using this
    refine cell_k hc ?_
    rw [hx j hj, ← List.getElem?_map]
    exact hu

theorem app_below {W w1 : World} {v0 : Value} (hg : (W.alloc (.cells #[] 2)).grownBy w1 v0.ownBlock) (hv0 : v0 = .slice (some ⟨W.heap.size, 0, none⟩) 0 0 := by rfl) : Below W.heap.size W w1 := by
  subst hv0
  exact ((Below.refl _ _).alloc (Nat.le_refl _) _).grown hg (by simp) (fun k hk => by
    have e : some W.heap.size = some k := hk
    have := Option.some.inj e
    omega)

set_option maxRecDepth 100000 in
set_option maxHeartbeats 4000000 in
theorem from_leafS (W0 : World) (wv : Value) (A : Nat → Nat → Bool) (D n b : Nat) (hn8 : n ≤ 8) (s : List Int) (t c : Nat) (st : List Int × Int) (g cp : Nat) (W : World) (hsl : s.length = n) (hcs : c ≤ s.length) (hov : Own W (b + 1) 2 (Value.int .i64) (.slice (some ⟨g, 0, none⟩) s.length cp) s) (hms : MS W0 wv n b st W) :
    Calls Tryz.prog 23 #[.pointer (some ⟨b, 0, none⟩), .slice (some ⟨g, 0, none⟩) s.length cp, .int .u16 (t : Int), .int .i64 (c : Int)] W fun e W' => e = .returned (.tuple #[]) ∧ MS W0 wv n b (frmS A D 0 s t c st) W' ∧ KB b W W' := by
  obtain ⟨L, hL⟩ : ∃ L : Nat, L = 0 := ⟨_, rfl⟩
  obtain ⟨i0, hin, hz0, hz1, hz2⟩ := info_parts info_i64S
  have hl1000 : s.length ≤ 8 := by omega
  have HMS := Lib.hid hms
  have HOV := Lib.hid hov
  obtain ⟨cm, hcm⟩ : ∃ cm, cm = c + L := ⟨_, rfl⟩
  have e2 : IntKind.i64.wrap ((n : Int) - (s.length : Int)) = (L : Int) := by rw [i64S (by omega) (by omega)]; omega
  have e3 : IntKind.i64.wrap ((c : Int) + (L : Int)) = (cm : Int) := by rw [i64S (by omega) (by omega)]; omega
  have ze : ((L : Int) == 0) = true := by rw [hL]; rfl
  obtain ⟨R, hR⟩ : ∃ R, R = frmS A D 0 s t c st := ⟨_, rfl⟩
  rw [← hR]
  have HR : Hid (R = if (cm : Int) ≤ st.2 then st else (s, (c : Int))) := Lib.hid (by rw [hR, frmS, hcm, hL, Nat.add_zero])
  have HC : Hid (cm = c ∧ s.length = n) := Lib.hid ⟨by omega, hsl⟩
  obtain ⟨c0, c1, c3⟩ := hms.cells
  have HNW : Hid (∀ j u, (s.map (Value.int .i64))[j]? = some u → (W.alloc (.cells #[] 2)).cell? ((⟨g, 0, none⟩ : Addr).add j) = some u) := Lib.hid (fun j u hu => cell_belowB ((Below.refl _ _).alloc (Nat.le_refl _) _) (own_cellsM hov hu))
  obtain ⟨v0, k0, -⟩ := hms.h
  have K0 := Lib.hid k0
  have HLT := Lib.hid (row_lt k0)
  clear hms hov hR hsl k0 hL
  go_enter Tryz.func23, Tryz.ntmps23
  by_cases hle : (cm : Int) ≤ st.2
  · have HV : Hid (R = st) := Lib.hid (by rw [HR.out, if_pos hle])
    have hd : decide ((cm : Int) ≤ st.2) = true := decide_eq_true hle
    clear HR hcm hcs
    go_wp2
    (try simp only [Exit.inBlock, Exit.then])
    refine bodyPost_ret (results_none rfl _ _ _) rfl ?_
    exact ⟨rfl, by rw [HV.out]; exact HMS.out, KB.refl _ _⟩
  · have HV : Hid (R = (s, (c : Int))) := Lib.hid (by rw [HR.out, if_neg hle])
    have hd : decide ((cm : Int) ≤ st.2) = false := decide_eq_false hle
    clear HR hcm hcs hle
    go_upto_region 3 with (fail)
    go_wp2_with (at_builtin; refine wpList_append_own _ rfl _ _ 31 rfl W.heap.size 2 i0 (.int .i64 0) 1 8 Tryz.underlying31 hin hz0 hz1 hz2 rfl (by decide) _ _ _ rfl (World.ownsRow_made _ _ _ (Nat.le_refl _) (Nat.zero_le _) rfl) ⟨g, 0, none⟩ s.length cp (s.map (Value.int .i64)) rfl (by rw [List.length_map, Nat.mul_one]) HNW.out (by intro u hu; obtain ⟨x, _, rfl⟩ := List.mem_map.1 hu; rfl) (by unfold maxLen; omega) (by omega) (by simp) ?_; intro v' w1 hown' hgrow hnil; have hB1 := Lib.hid (app_below hgrow); have hsz1 := hB1.out.size; rw [List.nil_append, Nat.zero_add] at hown'; have HO1 := Lib.hid hown'; clear hgrow hnil hown'; have HOF := Lib.hid (own_of_rowS (xs := s) (mk := Value.int .i64) HO1.out (by unfold maxLen; omega)); obtain ⟨a9, c9, rfl, -⟩ := id HOF.out; have r9 := below_row hB1.out K0.out; have q2 := cell_k (k := 2) r9 rfl; have f2 := frozen_of_row w1 b 2 _ _ r9; have q3 := cell_k (k := 3) r9 rfl; have f3 := frozen_of_row w1 b 3 _ _ r9; clear r9)
    (try simp only [Exit.inBlock, Exit.then])
    refine bodyPost_ret (results_none rfl _ _ _) rfl ?_
    exact ⟨rfl, by rw [HV.out]; exact (HMS.out.below hB1.out).best (own_below HOF.out (Below.refl _ _) HLT.out), ((KB.below hB1.out).set).set⟩

theorem own_someM {V : World} {B pl : Nat} {v : Value} {s : List Int} {x : Int} (h : Own V B 2 (Value.int .i64) v (s ++ [x])) (hpl : (s ++ [x]).length = pl) : ∃ g c, v = .slice (some ⟨g, 0, none⟩) pl c := by
  obtain ⟨a, cap, e1, e2, e3, e4⟩ := h
  rcases e4 with ⟨-, e4⟩ | ⟨g, cur, e, -⟩
  · simp at e4
  · subst e; exact ⟨g, cap, by rw [e1, hpl]⟩

theorem own_snocM {w2 : World} {base : Nat} {v : Value} {s : List Int} {x : Int} (h : w2.ownsRow base 2 1 v (s.length + 1) (s.map (Value.int .i64) ++ [.int .i64 x])) (hs : s.length ≤ 8) : Own w2 base 2 (Value.int .i64) v (s ++ [x]) :=
  own_of_rowS (xs := s ++ [x]) (mk := Value.int .i64) (by rw [List.length_append, List.length_singleton, List.map_append]; exact h) (by rw [List.length_append, List.length_singleton]; unfold maxLen; omega)

set_option maxRecDepth 100000 in
set_option maxHeartbeats 8000000 in
theorem from_anyS (W0 : World) (wv : Value) (xs : List Nat) (hwa : WAt W0 wv xs) (hx256 : ∀ x ∈ xs, x < 256) (hD : xs.length ≤ 8) (n b : Nat) (hn8 : n ≤ 8) :
    ∀ (l : Nat) (s : List Int) (t c : Nat) (st : List Int × Int) (g cp : Nat) (W : World), s.length + l = n → t < 2 ^ xs.length → c ≤ s.length → Own W (b + 1) 2 (Value.int .i64) (.slice (some ⟨g, 0, none⟩) s.length cp) s → MS W0 wv n b st W →
    Calls Tryz.prog 23 #[.pointer (some ⟨b, 0, none⟩), .slice (some ⟨g, 0, none⟩) s.length cp, .int .u16 (t : Int), .int .i64 (c : Int)] W fun e W' => e = .returned (.tuple #[]) ∧ MS W0 wv n b (frmS (suitA xs) xs.length l s t c st) W' ∧ KB b W W' := by
  intro l
  induction l with
  | zero =>
    intro s t c st g cp W hsl ht hcs hov hms
    exact from_leafS W0 wv (suitA xs) xs.length n b hn8 s t c st g cp W (by omega) hcs hov hms
  | succ l ih =>
    intro s t c st g cp W hsl ht hcs hov hms
    obtain ⟨L, hL⟩ : ∃ L : Nat, L = l + 1 := ⟨_, rfl⟩
    obtain ⟨i0, hin, hz0, hz1, hz2⟩ := info_parts info_i64S
    have hl1000 : s.length ≤ 8 := by omega
    have HMS := Lib.hid hms
    have HOV := Lib.hid hov
    obtain ⟨cm, hcm⟩ : ∃ cm, cm = c + L := ⟨_, rfl⟩
    have e2 : IntKind.i64.wrap ((n : Int) - (s.length : Int)) = (L : Int) := by rw [i64S (by omega) (by omega)]; omega
    have e3 : IntKind.i64.wrap ((c : Int) + (L : Int)) = (cm : Int) := by rw [i64S (by omega) (by omega)]; omega
    have ze : ((L : Int) == 0) = false := beq_eq_false_iff_ne.2 (by omega)
    obtain ⟨F, hF⟩ : ∃ F : Nat → List Int × Int → List Int × Int, F = fun k st => if suitA xs k s.length && !t.testBit k then frmS (suitA xs) xs.length l (s ++ [(k : Int)]) (t ||| 2 ^ k) (c + 1) st else st := ⟨_, rfl⟩
    obtain ⟨R, hR⟩ : ∃ R, R = frmS (suitA xs) xs.length (l + 1) s t c st := ⟨_, rfl⟩
    rw [← hR]
    have HR : Hid (R = if (cm : Int) ≤ st.2 then st else frmS (suitA xs) xs.length l (s ++ [-1]) t c (walkD F xs.length st)) := Lib.hid (by rw [hR, frmS, ← hL, ← hcm, hF])
    have HF : Hid (∀ k st, F k st = if suitA xs k s.length && !t.testBit k then frmS (suitA xs) xs.length l (s ++ [(k : Int)]) (t ||| 2 ^ k) (c + 1) st else st) := Lib.hid (fun k st => by rw [hF])
    have HSL : Hid (s.length + l + 1 = n ∧ c ≤ s.length ∧ n ≤ 8 ∧ t < 2 ^ xs.length ∧ t < 256) := Lib.hid ⟨by omega, hcs, hn8, ht, Nat.lt_of_lt_of_le ht (pow_le8 hD)⟩
    have H256 := Lib.hid hx256
    have HIH := Lib.hid ih
    have HWA := Lib.hid hwa
    have hsl8 : s.length < 8 := by omega
    obtain ⟨c0, c1, c3⟩ := hms.cells
    obtain ⟨a, cap, rfl, -⟩ := id hwa
    have w11 : IntKind.u64.wrap (s.length : Int) = (s.length : Int) := by rw [IntWalk.u64_in _ (by omega)]
    have w12 : (s.length : Int) ≤ 16 := by omega
    have w13 : (0 : Int) ≤ (s.length : Int) := by omega
    clear hcm hR hF hsl ht hcs hn8 hwa hx256 ih hL hms hov
    go_enter Tryz.func23, Tryz.ntmps23
    by_cases hle : (cm : Int) ≤ st.2
    · have HV : Hid (R = st) := Lib.hid (by rw [HR.out, if_pos hle])
      have hd : decide ((cm : Int) ≤ st.2) = true := decide_eq_true hle
      clear HR HIH HF
      go_wp2
      (try simp only [Exit.inBlock, Exit.then])
      refine bodyPost_ret (results_none rfl _ _ _) rfl ?_
      exact ⟨rfl, by rw [HV.out]; exact HMS.out, KB.refl _ _⟩
    · have HV : Hid (R = frmS (suitA xs) xs.length l (s ++ [-1]) t c (walkD F xs.length st)) := Lib.hid (by rw [HR.out, if_neg hle])
      have hd : decide ((cm : Int) ≤ st.2) = false := decide_eq_false hle
      clear HR
      go_upto_region 5 with (fail)
      clear hle hd e2 e3 c0 c1 c3 ze
      go_wp2
      go_loopw [10] (fun i wr => ∃ k : Nat, k ≤ xs.length ∧ i = .int .i64 (k : Int) ∧ MS W0 (.slice a xs.length cap) n b (walkD F k st) wr ∧ KB b W wr) (fun i _ => xs.length - (intOf i).toNat)
      case atStart => exact ⟨0, Nat.zero_le _, rfl, HMS.out, KB.refl _ _⟩
      case round =>
        clear HMS
        obtain ⟨k, hk, rfl, hms, hkb⟩ := hrel
        have hFS : walkD F (k + 1) st = F k (walkD F k st) := rfl
        rw [HF.out] at hFS
        generalize hst1 : walkD F k st = st1 at *
        have HST := Lib.hid hst1
        have HMS := Lib.hid hms
        have HKB := Lib.hid hkb
        have hov := own_kb HOV.out hkb
        have HNW : Hid (∀ j u, (s.map (Value.int .i64))[j]? = some u → (wr.alloc (.cells #[] 2)).cell? ((⟨g, 0, none⟩ : Addr).add j) = some u) := Lib.hid (fun j u hu => cell_belowB ((Below.refl _ _).alloc (Nat.le_refl _) _) (own_cellsM hov hu))
        have HLT : Hid (b + 1 ≤ wr.heap.size) := Lib.hid (by obtain ⟨v0, k0, -⟩ := hms.h; exact row_lt k0)
        obtain ⟨c0, -, -⟩ := hms.cells
        clear hst1 hkb hov
        by_cases hlt : k < xs.length
        · obtain ⟨x, hx⟩ : ∃ x, xs[k]? = some x := ⟨_, List.getElem?_eq_getElem hlt⟩
          obtain ⟨gw, ow, rfl, hc⟩ := wat_at (wat_below HWA.out hms.hb) hx
          have hxl : x < 256 := H256.out x (List.mem_of_getElem? hx)
          have hb1 : (bits .and .u16 ((x : Int) / 2 ^ s.length) 1 == 1) = suitA xs k s.length := by
            have e : suitA xs k s.length = x.testBit s.length := by unfold suitA; rw [List.getD_eq_getElem?_getD, hx]; rfl
            rw [e]; exact (u16_bit ⟨x, hxl⟩ ⟨s.length, hsl8⟩).1
          have hb2 : (bits .and .u16 ((t : Int) / 2 ^ k) 1 == 0) = !t.testBit k := (u16_bit ⟨t, HSL.out.2.2.2.2⟩ ⟨k, by omega⟩).2
          have e6 : bits .or .u16 (t : Int) (2 ^ k) = ((t ||| 2 ^ k : Nat) : Int) := u16_or ⟨t, HSL.out.2.2.2.2⟩ ⟨k, by omega⟩
          have w20 : IntKind.i64.wrap (k : Int) = (k : Int) := i64S (by omega) (by omega)
          have w21 : IntKind.u64.wrap (k : Int) = (k : Int) := by rw [IntWalk.u64_in _ (by omega)]
          have w22 : (k : Int) ≤ 16 := by omega
          have w23 : (0 : Int) ≤ (k : Int) := by omega
          have w24 : (k : Int) < (xs.length : Int) := by omega
          have hpw := pow16S (show k < 10 by omega)
          have hpw2 : (2 : Int) ^ k % 65536 = (2 : Int) ^ k := hpw
          clear hx hxl hms
          cases hb : t.testBit k with
          | true =>
            rw [hb] at hFS hb2
            have HFS : Hid (walkD F (k + 1) st = st1) := Lib.hid (by rw [hFS]; simp)
            clear hFS hb1 hb
            go_wp2
            go_roundw
            case rel => exact ⟨k + 1, by omega, by go_num, by rw [HFS.out]; exact HMS.out, HKB.out⟩
            case measure => simp [intOf]; omega
          | false =>
            cases ha : suitA xs k s.length with
            | false =>
              rw [ha, hb] at hFS
              rw [ha] at hb1
              rw [hb] at hb2
              have HFS : Hid (walkD F (k + 1) st = st1) := Lib.hid hFS
              clear hFS ha hb
              go_wp2
              go_roundw
              case rel => exact ⟨k + 1, by omega, by go_num, by rw [HFS.out]; exact HMS.out, HKB.out⟩
              case measure => simp [intOf]; omega
            | true =>
              rw [ha, hb] at hFS
              rw [ha] at hb1
              rw [hb] at hb2
              obtain ⟨t2, ht2⟩ : ∃ t2, t2 = t ||| 2 ^ k := ⟨_, rfl⟩
              obtain ⟨c2, hc2⟩ : ∃ c2, c2 = c + 1 := ⟨_, rfl⟩
              obtain ⟨pl, hpl⟩ : ∃ pl, (s ++ [(k : Int)]).length = pl := ⟨_, rfl⟩
              have HPL := Lib.hid hpl
              have e7 : IntKind.i64.wrap ((c : Int) + 1) = (c2 : Int) := by have := HSL.out; rw [i64S (by omega) (by omega)]; omega
              have HI2 := Lib.hid (fun gv cv V ho hV => HIH.out (s ++ [(k : Int)]) (t ||| 2 ^ k) (c + 1) st1 gv cv V (by have := HSL.out; rw [List.length_append, List.length_singleton]; omega) (or_lt HSL.out.2.2.2.1 hlt) (by have := HSL.out; rw [List.length_append, List.length_singleton]; omega) ho hV)
              have HFS : Hid (walkD F (k + 1) st = frmS (suitA xs) xs.length l (s ++ [(k : Int)]) t2 c2 st1) := Lib.hid (by rw [hFS, ht2, hc2]; rfl)
              rw [← ht2, ← hc2, hpl] at HI2
              rw [← ht2] at e6
              clear hFS ha hb ht2 hc2 hpl
              go_wp2_with (first | (at_builtin; refine wpList_append_own _ rfl _ _ 31 rfl wr.heap.size 2 i0 (.int .i64 0) 1 8 Tryz.underlying31 hin hz0 hz1 hz2 rfl (by decide) _ _ _ rfl (World.ownsRow_made _ _ _ (Nat.le_refl _) (Nat.zero_le _) rfl) ⟨g, 0, none⟩ s.length cp (s.map (Value.int .i64)) rfl (by rw [List.length_map, Nat.mul_one]) HNW.out (by intro u hu; obtain ⟨x, _, rfl⟩ := List.mem_map.1 hu; rfl) (by unfold maxLen; omega) (by omega) (by simp) ?_; intro v' w1 hown' hgrow hnil; have hB1 := Lib.hid (app_below hgrow); have hsz1 := hB1.out.size; rw [List.nil_append, Nat.zero_add] at hown'; have HO1 := Lib.hid hown'; clear hgrow hnil hown') | (at_builtin; go_loud (refine wpList_append_own _ rfl _ _ 31 rfl wr.heap.size 2 i0 (.int .i64 0) 1 8 Tryz.underlying31 hin hz0 hz1 hz2 rfl (by decide) _ _ _ rfl (HO1.out.alloc _) ⟨w1.heap.size, 0, none⟩ 1 1 [.int .i64 (k : Int)] rfl rfl (cell_one_new _ _ _) (by simp [Value.oneCell']) (by unfold maxLen; omega) (by omega) (by simp; omega) ?_); intro v2 w2 hown2 hgrow2 _; have HB2 := Lib.hid ((hB1.out.alloc hB1.out.size _).grown hgrow2 (by have := hB1.out.size; simp; omega) (fun k hk => (HO1.out.lt k hk).1)); have HO2 := Lib.hid (own_snocM hown2 hl1000); obtain ⟨gv, cv, rfl⟩ := own_someM HO2.out HPL.out; clear hgrow2 hown2) | (go_at_call 23; refine (HI2.out gv cv w2 (own_below HO2.out (Below.refl _ _) HLT.out) (HMS.out.below HB2.out)).mono ?_; rintro e W9 ⟨rfl, hm9, hk9⟩; have HM9 := Lib.hid hm9; have HK9 := Lib.hid ((KB.below HB2.out).trans hk9); clear hm9 hk9))
              go_roundw
              case rel => exact ⟨k + 1, by omega, by go_num, by rw [HFS.out]; exact HM9.out, HKB.out.trans HK9.out⟩
              case measure => simp [intOf]; omega
        · obtain rfl : k = xs.length := by omega
          obtain ⟨pl, hpl⟩ : ∃ pl, (s ++ [(-1 : Int)]).length = pl := ⟨_, rfl⟩
          have HPL := Lib.hid hpl
          have HI2 := Lib.hid (fun gv cv V ho hV => HIH.out (s ++ [(-1 : Int)]) t c st1 gv cv V (by have := HSL.out; rw [List.length_append, List.length_singleton]; omega) HSL.out.2.2.2.1 (by have := HSL.out; rw [List.length_append, List.length_singleton]; omega) ho hV)
          rw [hpl] at HI2
          clear hFS hms hpl
          go_wp2_with (first | (at_builtin; refine wpList_append_own _ rfl _ _ 31 rfl wr.heap.size 2 i0 (.int .i64 0) 1 8 Tryz.underlying31 hin hz0 hz1 hz2 rfl (by decide) _ _ _ rfl (World.ownsRow_made _ _ _ (Nat.le_refl _) (Nat.zero_le _) rfl) ⟨g, 0, none⟩ s.length cp (s.map (Value.int .i64)) rfl (by rw [List.length_map, Nat.mul_one]) HNW.out (by intro u hu; obtain ⟨x, _, rfl⟩ := List.mem_map.1 hu; rfl) (by unfold maxLen; omega) (by omega) (by simp) ?_; intro v' w1 hown' hgrow hnil; have hB1 := Lib.hid (app_below hgrow); have hsz1 := hB1.out.size; rw [List.nil_append, Nat.zero_add] at hown'; have HO1 := Lib.hid hown'; clear hgrow hnil hown') | (at_builtin; go_loud (refine wpList_append_own _ rfl _ _ 31 rfl wr.heap.size 2 i0 (.int .i64 0) 1 8 Tryz.underlying31 hin hz0 hz1 hz2 rfl (by decide) _ _ _ rfl (HO1.out.alloc _) ⟨w1.heap.size, 0, none⟩ 1 1 [.int .i64 (-1)] rfl rfl (cell_one_new _ _ _) (by simp [Value.oneCell']) (by unfold maxLen; omega) (by omega) (by simp; omega) ?_); intro v2 w2 hown2 hgrow2 _; have HB2 := Lib.hid ((hB1.out.alloc hB1.out.size _).grown hgrow2 (by have := hB1.out.size; simp; omega) (fun k hk => (HO1.out.lt k hk).1)); have HO2 := Lib.hid (own_snocM hown2 hl1000); obtain ⟨gv, cv, rfl⟩ := own_someM HO2.out HPL.out; clear hgrow2 hown2) | (go_at_call 23; refine (HI2.out gv cv w2 (own_below HO2.out (Below.refl _ _) HLT.out) (HMS.out.below HB2.out)).mono ?_; rintro e W9 ⟨rfl, hm9, hk9⟩; have HM9 := Lib.hid hm9; have HK9 := Lib.hid ((KB.below HB2.out).trans hk9); clear hm9 hk9))
          go_end0
          exact ⟨rfl, by rw [HV.out, HST.out]; exact HM9.out, HKB.out.trans HK9.out⟩

end Go.Proofs.YtckkemknajggpaaGreatDoor

namespace Go.Proofs.YtckkemknajggpaaGreatDoor
open Go.ChangeShapes Go.WideShapes Go.ChangeAt Go.RowKit Go.Deep Go.Joins

attribute [local go_sem] run_store_f

theorem pbN_nat (f : Nat → Bool) : ∀ n, n ≤ 8 → ∃ m : Nat, pbN f n = (m : Int) ∧ m < 2 ^ n
  | 0, _ => ⟨0, rfl, by decide⟩
  | n + 1, h => by
    obtain ⟨m, e, hm⟩ := pbN_nat f n (by omega)
    have h256 : m < 256 := Nat.lt_of_lt_of_le hm (pow_le8 (by omega))
    have hp : 2 ^ n < 2 ^ (n + 1) := Nat.pow_lt_pow_right (by decide) (Nat.lt_succ_self n)
    cases hf : f n with
    | true => exact ⟨m ||| 2 ^ n, by rw [pbN_hit hf, e]; exact u16_or ⟨m, h256⟩ ⟨n, by omega⟩, or_lt (Nat.lt_trans hm hp) (Nat.lt_succ_self n)⟩
    | false => exact ⟨m, by rw [pbN_miss hf, e], Nat.lt_trans hm hp⟩

/-- The words of the desks, as natural numbers. -/
theorem sbD_nats (wd hg : Int) (ws : List Wn) (ps : List Pn) (h : ps.length ≤ 8) (ds : List Dk) : ∃ ys : List Nat, ds.map (sbD wd hg ws ps) = ys.map (fun (y : Nat) => (y : Int)) ∧ ys.length = ds.length ∧ ∀ y ∈ ys, y < 256 := by
  induction ds with
  | nil => exact ⟨[], rfl, rfl, fun y h => by cases h⟩
  | cons d ds ih =>
    obtain ⟨ys, e1, e2, e3⟩ := ih
    obtain ⟨m, em, hm⟩ := pbN_nat (suL (litW wd hg (d.1, d.2.1) (fun _ => true) ws) (litW wd hg (d.1, d.2.1) (glW wd hg d.1 d.2.1 d.2.2) ws) ps) ps.length h
    refine ⟨m :: ys, ?_, by simp [e2], fun y hy => ?_⟩
    · rw [List.map_cons, List.map_cons, e1]
      exact congrArg (· :: _) em
    · rcases List.mem_cons.1 hy with rfl | hy
      · exact Nat.lt_of_lt_of_le hm (pow_le8 h)
      · exact e3 y hy

theorem wat_own {V : World} {B : Nat} {v : Value} {ys : List Nat} (h : Own V B 60 (Value.int .u16) v (ys.map (fun (y : Nat) => (y : Int)))) : WAt V v ys := by
  obtain ⟨a, cap, e1, e2, e3, e4⟩ := h
  refine ⟨a, cap, by rw [e1, List.length_map], fun j x hx => ?_⟩
  rcases e4 with ⟨-, e4⟩ | ⟨g, cur, e, hg, hc, hk⟩
  · have : ys = [] := by simpa using e4
    subst this; simp at hx
  · refine ⟨g, 0, e, ?_⟩
    rw [Nat.zero_add]
    refine cell_k hc ?_
    have hj := (List.getElem?_eq_some_iff.1 hx).1
    rw [hk j (by rw [List.length_map]; exact hj), List.getElem?_map, hx]
    rfl

theorem wpList_buildP {P : Program} {ops : Array Oper} {rest : List Oper} {o : Oper} {a : Act} {w : World} {Q : Exit → Act → World → Prop} (hg : o.guard = none) (t : TypeId) (parts : Array (Nat × Operand)) (ho : o.op = .build t parts)
    (d : Option Tmp) (hd : o.dst = d) (l : List (Nat × Value)) (hp : parts.toList.map (fun x => (x.1, a.eval x.2)) = l) (cells : Array Value) (hf : P.built t l = some cells)
    (h : wpList P ops Q rest (a.put d (.agg cells)) w) : wpList P ops Q (o :: rest) a w := by
  refine wpList_buildTo hg t parts ho d hd cells ?_ h
  rw [Array.toList_map, ← hf, ← hp]

theorem built_ss (a1 : Option Addr) (m d1 : Nat) (z : Int) (g : Nat) (y : Int) : Tryz.prog.built 58 [(0, .slice a1 m d1), (1, .int .i64 z), (2, .slice (some ⟨g, 0, none⟩) 0 0), (3, .int .i64 y)] = some #[.slice a1 m d1, .int .i64 z, .slice (some ⟨g, 0, none⟩) 0 0, .int .i64 y] := by kernel_rfl

/-- The best seats, and how many people have one. -/
def seatsB (ys : List Nat) (n : Nat) : List Int × Int := frmS (suitA ys) ys.length n [] 0 0 ([], -1)

set_option maxRecDepth 100000 in
set_option maxHeartbeats 4000000 in
theorem iSp_n1 (wd hg : Int) (sv dv pv : Value) (ws : List Wn) (ds : List Dk) (ps : List Pn) (e0 e1 e2 e3 : Addr) (w : World) (hws : WinsAt w sv ws) (hds : DksAt w dv ds) (hps : PnsAt w pv ps) (hE : ErrsAt w e0 e1 e2 e3) (hn : refN (okRm wd hg ws && ps.all fitP) (ds.all (fitD wd hg)) (limB ds.length ps.length) = 1) :
    Calls Tryz.prog 11 #[.agg (roomC wd hg sv), dv, pv] w fun e w' => e = .returned (.tuple #[.slice none 0 0, .int .i64 0, .int .i64 1]) ∧ Below w.heap.size w w' := by
  have HSR : Hid (∀ V, WinsAt V sv ws → DksAt V dv ds → PnsAt V pv ps → ErrsAt V e0 e1 e2 e3 → Calls Tryz.prog 27 #[.agg (roomC wd hg sv), dv, pv] V fun e w' => e = .returned (.iface 162 (.pointer (some e0))) ∧ Below V.heap.size V w') := Lib.hid (fun V h1 h2 h3 h4 => by have := seatRef_any wd hg sv dv pv ws ds ps e0 e1 e2 e3 V h1 h2 h3 h4; rw [hn] at this; exact this)
  have hne := fun w => run_neq_held_nil (P := Tryz.prog) (w := w) 76 162 (.pointer (some e0)) (by kernel_rfl)
  have HW := Lib.hid hws
  have HDK := Lib.hid hds
  have HPN := Lib.hid hps
  have HX0 := Lib.hid hE
  clear hws hds hps hE hn
  go_enter Tryz.func11, Tryz.ntmps11
  go_upto_region 1 with (fail)
  refine abs_world (fun W => W.heap[w.heap.size]? = some (.cells (roomC wd hg sv) 36 (0, 0)) ∧ Below w.heap.size w W) ⟨heap_alloc_new _ _, (Below.refl _ _).alloc (Nat.le_refl _) _⟩ ?_
  rintro W ⟨h0, hbz⟩
  have H0 := Lib.hid h0
  have HV := Lib.hid (wins_below HW.out hbz)
  have HD := Lib.hid (dks_below HDK.out hbz)
  have HP := Lib.hid (pns_below HPN.out hbz)
  have HX := Lib.hid (errs_below HX0.out hbz)
  clear h0
  go_wp2_with (first | (refine wpList_load_part rfl 36 _ rfl w.heap.size 0 3 rfl 36 (roomC wd hg sv) (0, 0) _ H0.out Tryz.underlying36 rfl info_room (room_fits _ _ _) _ (room_all _ _ _) ?_) | (go_at_call 27; refine (HSR.out _ HV.out HD.out HP.out HX.out).mono ?_; rintro e W1 ⟨rfl, hb1⟩; replace H0 := Lib.hid (below_row hb1 H0.out); replace HV := Lib.hid (wins_below HV.out hb1); replace HD := Lib.hid (dks_below HD.out hb1); replace HP := Lib.hid (pns_below HP.out hb1); replace HX := Lib.hid (errs_below HX.out hb1); replace hbz := hbz.trans (hb1.mono hbz.size); clear hb1) | (go_at_call 28; refine (codeOf_any HX.out 1).mono ?_; rintro e W4 ⟨rfl, rfl⟩))
  go_ret3
  exact ⟨rfl, hbz⟩

set_option maxRecDepth 100000 in
set_option maxHeartbeats 4000000 in
theorem iSp_n2 (wd hg : Int) (sv dv pv : Value) (ws : List Wn) (ds : List Dk) (ps : List Pn) (e0 e1 e2 e3 : Addr) (w : World) (hws : WinsAt w sv ws) (hds : DksAt w dv ds) (hps : PnsAt w pv ps) (hE : ErrsAt w e0 e1 e2 e3) (hn : refN (okRm wd hg ws && ps.all fitP) (ds.all (fitD wd hg)) (limB ds.length ps.length) = 2) :
    Calls Tryz.prog 11 #[.agg (roomC wd hg sv), dv, pv] w fun e w' => e = .returned (.tuple #[.slice none 0 0, .int .i64 0, .int .i64 2]) ∧ Below w.heap.size w w' := by
  have HSR : Hid (∀ V, WinsAt V sv ws → DksAt V dv ds → PnsAt V pv ps → ErrsAt V e0 e1 e2 e3 → Calls Tryz.prog 27 #[.agg (roomC wd hg sv), dv, pv] V fun e w' => e = .returned (.iface 162 (.pointer (some e1))) ∧ Below V.heap.size V w') := Lib.hid (fun V h1 h2 h3 h4 => by have := seatRef_any wd hg sv dv pv ws ds ps e0 e1 e2 e3 V h1 h2 h3 h4; rw [hn] at this; exact this)
  have hne := fun w => run_neq_held_nil (P := Tryz.prog) (w := w) 76 162 (.pointer (some e1)) (by kernel_rfl)
  have HW := Lib.hid hws
  have HDK := Lib.hid hds
  have HPN := Lib.hid hps
  have HX0 := Lib.hid hE
  clear hws hds hps hE hn
  go_enter Tryz.func11, Tryz.ntmps11
  go_upto_region 1 with (fail)
  refine abs_world (fun W => W.heap[w.heap.size]? = some (.cells (roomC wd hg sv) 36 (0, 0)) ∧ Below w.heap.size w W) ⟨heap_alloc_new _ _, (Below.refl _ _).alloc (Nat.le_refl _) _⟩ ?_
  rintro W ⟨h0, hbz⟩
  have H0 := Lib.hid h0
  have HV := Lib.hid (wins_below HW.out hbz)
  have HD := Lib.hid (dks_below HDK.out hbz)
  have HP := Lib.hid (pns_below HPN.out hbz)
  have HX := Lib.hid (errs_below HX0.out hbz)
  clear h0
  go_wp2_with (first | (refine wpList_load_part rfl 36 _ rfl w.heap.size 0 3 rfl 36 (roomC wd hg sv) (0, 0) _ H0.out Tryz.underlying36 rfl info_room (room_fits _ _ _) _ (room_all _ _ _) ?_) | (go_at_call 27; refine (HSR.out _ HV.out HD.out HP.out HX.out).mono ?_; rintro e W1 ⟨rfl, hb1⟩; replace H0 := Lib.hid (below_row hb1 H0.out); replace HV := Lib.hid (wins_below HV.out hb1); replace HD := Lib.hid (dks_below HD.out hb1); replace HP := Lib.hid (pns_below HP.out hb1); replace HX := Lib.hid (errs_below HX.out hb1); replace hbz := hbz.trans (hb1.mono hbz.size); clear hb1) | (go_at_call 28; refine (codeOf_any HX.out 2).mono ?_; rintro e W4 ⟨rfl, rfl⟩))
  go_ret3
  exact ⟨rfl, hbz⟩

set_option maxRecDepth 100000 in
set_option maxHeartbeats 4000000 in
theorem iSp_n3 (wd hg : Int) (sv dv pv : Value) (ws : List Wn) (ds : List Dk) (ps : List Pn) (e0 e1 e2 e3 : Addr) (w : World) (hws : WinsAt w sv ws) (hds : DksAt w dv ds) (hps : PnsAt w pv ps) (hE : ErrsAt w e0 e1 e2 e3) (hn : refN (okRm wd hg ws && ps.all fitP) (ds.all (fitD wd hg)) (limB ds.length ps.length) = 3) :
    Calls Tryz.prog 11 #[.agg (roomC wd hg sv), dv, pv] w fun e w' => e = .returned (.tuple #[.slice none 0 0, .int .i64 0, .int .i64 3]) ∧ Below w.heap.size w w' := by
  have HSR : Hid (∀ V, WinsAt V sv ws → DksAt V dv ds → PnsAt V pv ps → ErrsAt V e0 e1 e2 e3 → Calls Tryz.prog 27 #[.agg (roomC wd hg sv), dv, pv] V fun e w' => e = .returned (.iface 162 (.pointer (some e2))) ∧ Below V.heap.size V w') := Lib.hid (fun V h1 h2 h3 h4 => by have := seatRef_any wd hg sv dv pv ws ds ps e0 e1 e2 e3 V h1 h2 h3 h4; rw [hn] at this; exact this)
  have hne := fun w => run_neq_held_nil (P := Tryz.prog) (w := w) 76 162 (.pointer (some e2)) (by kernel_rfl)
  have HW := Lib.hid hws
  have HDK := Lib.hid hds
  have HPN := Lib.hid hps
  have HX0 := Lib.hid hE
  clear hws hds hps hE hn
  go_enter Tryz.func11, Tryz.ntmps11
  go_upto_region 1 with (fail)
  refine abs_world (fun W => W.heap[w.heap.size]? = some (.cells (roomC wd hg sv) 36 (0, 0)) ∧ Below w.heap.size w W) ⟨heap_alloc_new _ _, (Below.refl _ _).alloc (Nat.le_refl _) _⟩ ?_
  rintro W ⟨h0, hbz⟩
  have H0 := Lib.hid h0
  have HV := Lib.hid (wins_below HW.out hbz)
  have HD := Lib.hid (dks_below HDK.out hbz)
  have HP := Lib.hid (pns_below HPN.out hbz)
  have HX := Lib.hid (errs_below HX0.out hbz)
  clear h0
  go_wp2_with (first | (refine wpList_load_part rfl 36 _ rfl w.heap.size 0 3 rfl 36 (roomC wd hg sv) (0, 0) _ H0.out Tryz.underlying36 rfl info_room (room_fits _ _ _) _ (room_all _ _ _) ?_) | (go_at_call 27; refine (HSR.out _ HV.out HD.out HP.out HX.out).mono ?_; rintro e W1 ⟨rfl, hb1⟩; replace H0 := Lib.hid (below_row hb1 H0.out); replace HV := Lib.hid (wins_below HV.out hb1); replace HD := Lib.hid (dks_below HD.out hb1); replace HP := Lib.hid (pns_below HP.out hb1); replace HX := Lib.hid (errs_below HX.out hb1); replace hbz := hbz.trans (hb1.mono hbz.size); clear hb1) | (go_at_call 28; refine (codeOf_any HX.out 3).mono ?_; rintro e W4 ⟨rfl, rfl⟩))
  go_ret3
  exact ⟨rfl, hbz⟩

set_option maxRecDepth 100000 in
set_option maxHeartbeats 4000000 in
theorem iSp_y (wd hg : Int) (sv dv pv : Value) (ws : List Wn) (ds : List Dk) (ps : List Pn) (ok : RmOk wd hg ws) (hwf : ∀ x ∈ ws, WnWf x) (e0 e1 e2 e3 : Addr) (w : World) (hws : WinsAt w sv ws) (hds : DksAt w dv ds) (hps : PnsAt w pv ps) (hE : ErrsAt w e0 e1 e2 e3) (hn : refN (okRm wd hg ws && ps.all fitP) (ds.all (fitD wd hg)) (limB ds.length ps.length) = 0) (ha : ds.all (fitD wd hg) = true) (hld : ds.length ≤ 8) (hlp : ps.length ≤ 8) (ys : List Nat) (hys : ds.map (sbD wd hg ws ps) = ys.map (fun (y : Nat) => (y : Int))) (hyl : ys.length ≤ 8) (hy256 : ∀ y ∈ ys, y < 256) :
    Calls Tryz.prog 11 #[.agg (roomC wd hg sv), dv, pv] w fun e w' => (∃ v, e = .returned (.tuple #[v, .int .i64 (seatsB ys ps.length).2, .int .i64 0]) ∧ Own w' w.heap.size 2 (Value.int .i64) v (seatsB ys ps.length).1) ∧ Below w.heap.size w w' := by
  have HSR : Hid (∀ V, WinsAt V sv ws → DksAt V dv ds → PnsAt V pv ps → ErrsAt V e0 e1 e2 e3 → Calls Tryz.prog 27 #[.agg (roomC wd hg sv), dv, pv] V fun e w' => e = .returned .nilIface ∧ Below V.heap.size V w') := Lib.hid (fun V h1 h2 h3 h4 => by have := seatRef_any wd hg sv dv pv ws ds ps e0 e1 e2 e3 V h1 h2 h3 h4; rw [hn] at this; exact this)
  have hne := fun w => run_neq_nil_nil (P := Tryz.prog) (w := w) 76 (by kernel_rfl)
  have HSB := Lib.hid (fun V h1 h2 h3 => suitedBy_any wd hg sv dv pv ws ok hwf ds ps ha hld hlp V h1 h2 h3)
  have HSE : Hid (∀ V v, WAt V v ys → Calls Tryz.prog 29 #[v, .int .i64 (ps.length : Int)] V fun e w' => (∃ v, e = .returned (.tuple #[v, .int .i64 (seatsB ys ps.length).2]) ∧ Own w' V.heap.size 2 (Value.int .i64) v (seatsB ys ps.length).1) ∧ Below V.heap.size V w') := Lib.hid (fun V v h => by
    have k := seated_any v ys hy256 hyl ps.length hlp V h
    rw [prg_frm _ hyl _ _ _ _ _ (Nat.two_pow_pos _)] at k
    exact k)
  rw [hys] at HSB
  have HW := Lib.hid hws
  have HDK := Lib.hid hds
  have HPN := Lib.hid hps
  obtain ⟨pa, pc, rfl, -⟩ := id hps
  have HX0 := Lib.hid hE
  clear hws hds hps hE hn ha hld hlp ok hwf hys hyl hy256
  generalize seatsB ys ps.length = R at *
  go_enter Tryz.func11, Tryz.ntmps11
  go_upto_region 1 with (fail)
  refine abs_world (fun W => W.heap[w.heap.size]? = some (.cells (roomC wd hg sv) 36 (0, 0)) ∧ Below w.heap.size w W) ⟨heap_alloc_new _ _, (Below.refl _ _).alloc (Nat.le_refl _) _⟩ ?_
  rintro W ⟨h0, hbz⟩
  have H0 := Lib.hid h0
  have HV := Lib.hid (wins_below HW.out hbz)
  have HD := Lib.hid (dks_below HDK.out hbz)
  have HP := Lib.hid (pns_below HPN.out hbz)
  have HX := Lib.hid (errs_below HX0.out hbz)
  clear h0
  go_wp2_with (first | (refine wpList_load_part rfl 36 _ rfl w.heap.size 0 3 rfl 36 (roomC wd hg sv) (0, 0) _ H0.out Tryz.underlying36 rfl info_room (room_fits _ _ _) _ (room_all _ _ _) ?_) | (go_at_call 27; refine (HSR.out _ HV.out HD.out HP.out HX.out).mono ?_; rintro e W1 ⟨rfl, hb1⟩; replace H0 := Lib.hid (below_row hb1 H0.out); replace HV := Lib.hid (wins_below HV.out hb1); replace HD := Lib.hid (dks_below HD.out hb1); replace HP := Lib.hid (pns_below HP.out hb1); replace HX := Lib.hid (errs_below HX.out hb1); replace hbz := hbz.trans (hb1.mono hbz.size); clear hb1) | (go_at_call 30; have hlz := hbz.size; refine (HSB.out _ HV.out HD.out HP.out).mono ?_; rintro e W5 ⟨⟨v5, rfl, hv5⟩, hb5⟩; have HO5 := Lib.hid (own_below hv5 (Below.refl _ _) hlz); clear hv5; replace H0 := Lib.hid (below_row hb5 H0.out); replace HV := Lib.hid (wins_below HV.out hb5); replace HD := Lib.hid (dks_below HD.out hb5); replace HP := Lib.hid (pns_below HP.out hb5); replace HX := Lib.hid (errs_below HX.out hb5); replace hbz := hbz.trans (hb5.mono hbz.size); clear hb5) | (go_at_call 29; have hlz := hbz.size; refine (HSE.out _ _ (wat_own HO5.out)).mono ?_; rintro e W6 ⟨⟨v6, rfl, hv6⟩, hb6⟩; have HO6 := Lib.hid (own_below hv6 (Below.refl _ _) hlz); clear hv6; replace hbz := hbz.trans (hb6.mono hbz.size); clear hb6))
  go_ret3
  exact ⟨⟨_, rfl, HO6.out⟩, hbz⟩

/-- What the model answers. -/
structure SpAns (pall : Bool) (cd : Int) (np : Nat) (c : Int) (R S : List Int × Int) : Prop where
  bad : pall = false → c = 1 ∧ R = ([], 0)
  code : pall = true → cd ≠ 0 → c = cd ∧ R = ([], 0)
  many : pall = true → cd = 0 → 8 < np → c = 3 ∧ R = ([], 0)
  fine : pall = true → cd = 0 → np ≤ 8 → c = 0 ∧ R = S

set_option maxRecDepth 100000 in
set_option maxHeartbeats 4000000 in
theorem sSp_no (wd hg : Int) (iw : I8 wd) (ih : I8 hg) (sv dv pv : Value) (ws : List Wn) (hwf : ∀ x ∈ ws, WnWf x) (ds : List Dk) (hdf : ∀ x ∈ ds, DkWf x) (ps : List Pn) (c : Int) (hc : c ≠ 0) (xs : List Int) (hans : SbAns (ps.all fitP) (codeD (okRm wd hg ws) (true && ds.all (fitD wd hg)) ds.length) ps.length c xs (ds.map (sbD wd hg ws ps))) (w : World) (hws : WinsAt w sv ws) (hds : DksAt w dv ds) (hps : PnsAt w pv ps) :
    Calls Tryz.prog 7 #[.agg (roomC wd hg sv), dv, pv] w fun e w' => (∃ v, e = .returned (.tuple #[v, .int .i64 0, .int .i64 c]) ∧ Own w' w.heap.size 2 (Value.int .i64) v []) ∧ Below w.heap.size w w' := by
  have HBI := Lib.hid (fun V h0 h1 h2 h3 => l03Bits_any wd hg iw ih sv dv pv ws hwf ds hdf ps c xs hans w.heap.size 36 (0, 0) V h0 h1 h2 h3)
  have HW := Lib.hid hws
  have HDK := Lib.hid hds
  have HPN := Lib.hid hps
  have hcb : (c != 0) = true := by simpa using hc
  clear hws hds hps hans hdf hwf iw ih hc
  go_enter Tryz.func7, Tryz.ntmps7
  go_upto_region 1 with (fail)
  refine abs_world (fun W => W.heap[w.heap.size]? = some (.cells (roomC wd hg sv) 36 (0, 0)) ∧ Below w.heap.size w W) ⟨heap_alloc_new _ _, (Below.refl _ _).alloc (Nat.le_refl _) _⟩ ?_
  rintro W ⟨h0, hbz⟩
  have H0 := Lib.hid h0
  have HV := Lib.hid (wins_below HW.out hbz)
  have HD := Lib.hid (dks_below HDK.out hbz)
  have HP := Lib.hid (pns_below HPN.out hbz)
  clear h0
  go_wp2_with (go_at_call 22; refine (HBI.out _ H0.out HV.out HD.out HP.out).mono ?_; rintro e W1 ⟨⟨v1, rfl, hv1⟩, hb1⟩; clear hv1; replace hbz := hbz.trans (hb1.mono hbz.size); clear hb1; have hlz := hbz.size)
  go_ret3
  exact ⟨⟨_, rfl, ⟨_, 0, rfl, Nat.zero_le _, Nat.le_refl _, .inr ⟨_, _, rfl, hlz, heap_alloc_new _ _, fun k hk => by simp at hk⟩⟩⟩, hbz.alloc hlz _⟩

set_option maxRecDepth 100000 in
set_option maxHeartbeats 4000000 in
theorem sSp_yes (wd hg : Int) (iw : I8 wd) (ih : I8 hg) (sv dv pv : Value) (ws : List Wn) (hwf : ∀ x ∈ ws, WnWf x) (ds : List Dk) (hdf : ∀ x ∈ ds, DkWf x) (ps : List Pn) (hlp : ps.length ≤ 8) (ys : List Nat) (hyl : ys.length ≤ 8) (hy256 : ∀ y ∈ ys, y < 256) (hans : SbAns (ps.all fitP) (codeD (okRm wd hg ws) (true && ds.all (fitD wd hg)) ds.length) ps.length 0 (ys.map (fun (y : Nat) => (y : Int))) (ds.map (sbD wd hg ws ps))) (w : World) (hws : WinsAt w sv ws) (hds : DksAt w dv ds) (hps : PnsAt w pv ps) :
    Calls Tryz.prog 7 #[.agg (roomC wd hg sv), dv, pv] w fun e w' => (∃ v, e = .returned (.tuple #[v, .int .i64 (seatsB ys ps.length).2, .int .i64 0]) ∧ Own w' w.heap.size 2 (Value.int .i64) v (seatsB ys ps.length).1) ∧ Below w.heap.size w w' := by
  have HBI := Lib.hid (fun V h0 h1 h2 h3 => l03Bits_any wd hg iw ih sv dv pv ws hwf ds hdf ps 0 _ hans w.heap.size 36 (0, 0) V h0 h1 h2 h3)
  have HFR : Hid (∀ (W0 : World) (v : Value) (b g cp : Nat) (V : World), WAt W0 v ys → Own V (b + 1) 2 (Value.int .i64) (.slice (some ⟨g, 0, none⟩) 0 cp) [] → MS W0 v ps.length b ([], -1) V → Calls Tryz.prog 23 #[.pointer (some ⟨b, 0, none⟩), .slice (some ⟨g, 0, none⟩) 0 cp, .int .u16 0, .int .i64 0] V fun e V' => e = .returned (.tuple #[]) ∧ MS W0 v ps.length b (seatsB ys ps.length) V' ∧ KB b V V') := Lib.hid (fun W0 v b g cp V h1 h2 h3 => from_anyS W0 v ys h1 hy256 hyl ps.length b hlp ps.length [] 0 0 ([], -1) g cp V (by simp) (Nat.two_pow_pos _) (Nat.le_refl _) h2 h3)
  have HW := Lib.hid hws
  have HDK := Lib.hid hds
  have HPN := Lib.hid hps
  obtain ⟨pa, pc, rfl, -⟩ := id hps
  clear hws hds hps hans hdf hwf iw ih hyl hy256
  generalize seatsB ys ps.length = R at *
  go_enter Tryz.func7, Tryz.ntmps7
  go_upto_region 1 with (fail)
  refine abs_world (fun W => W.heap[w.heap.size]? = some (.cells (roomC wd hg sv) 36 (0, 0)) ∧ Below w.heap.size w W) ⟨heap_alloc_new _ _, (Below.refl _ _).alloc (Nat.le_refl _) _⟩ ?_
  rintro W ⟨h0, hbz⟩
  have H0 := Lib.hid h0
  have HV := Lib.hid (wins_below HW.out hbz)
  have HD := Lib.hid (dks_below HDK.out hbz)
  have HP := Lib.hid (pns_below HPN.out hbz)
  clear h0
  have hlz := hbz.size
  go_upto_region 4 with (go_at_call 22; refine (HBI.out _ H0.out HV.out HD.out HP.out).mono ?_; rintro e W1 ⟨⟨v1, rfl, hv1⟩, hb1⟩; have HWA := Lib.hid (wat_own hv1); clear hv1; replace hbz := hbz.trans (hb1.mono hbz.size); clear hb1)
  clear HBI H0 HV HD HP
  obtain ⟨a1, d1, rfl, -⟩ := id HWA.out
  have hlw := hbz.size
  go_upto_region 5 with (refine wpList_buildP rfl 58 _ rfl _ rfl [(0, .slice a1 ys.length d1), (1, .int .i64 (ps.length : Int)), (2, .slice (some ⟨W1.heap.size, 0, none⟩) 0 0), (3, .int .i64 (-1))] rfl #[.slice a1 ys.length d1, .int .i64 (ps.length : Int), .slice (some ⟨W1.heap.size, 0, none⟩) 0 0, .int .i64 (-1)] (built_ss _ _ _ _ _ _) ?_)
  refine abs_world (fun V => MS W1 (.slice a1 ys.length d1) ps.length (W1.heap.size + 1) ([], -1) V) ?hw ?_
  case hw =>
    have hb1 : Below W1.heap.size W1 (W1.alloc (.cells #[] 2)) := (Below.refl _ _).alloc (Nat.le_refl _) _
    have hsz : (W1.alloc (.cells #[] 2)).heap.size = W1.heap.size + 1 := by simp
    have hn := heap_alloc_new (W1.alloc (.cells #[] 2)) (.cells #[.slice a1 ys.length d1, .int .i64 (ps.length : Int), .slice (some ⟨W1.heap.size, 0, none⟩) 0 0, .int .i64 (-1)] 58)
    rw [hsz] at hn
    exact ⟨⟨_, hn, .inr ⟨rfl, W1.heap.size, rfl, Nat.le_refl _, below_row ((Below.refl _ _).alloc (Nat.le_refl _) _) (heap_alloc_new _ _)⟩⟩, hb1.alloc hb1.size _, Nat.le_succ _⟩
  have hlb : w.heap.size ≤ W1.heap.size + 1 := by omega
  generalize W1.heap.size + 1 = b at *
  rintro V hms
  have HMS := Lib.hid hms
  have hvb : b + 1 ≤ V.heap.size := by
    obtain ⟨v0, k0, -⟩ := hms.h
    exact row_lt k0
  have HCA := Lib.hid (HFR.out W1 _ b V.heap.size 0 (V.alloc (.cells #[] 2)) HWA.out ⟨_, 0, rfl, Nat.zero_le _, Nat.le_refl _, .inr ⟨V.heap.size, _, rfl, hvb, heap_alloc_new _ _, fun k hk => by simp at hk⟩⟩ (hms.below ((Below.refl _ _).alloc (Nat.le_refl _) _)))
  clear hms HFR HWA HMS
  go_upto_region 6 with (go_at_call 23; with_reducible refine HCA.out.mono ?_; rintro e V9 ⟨rfl, hm9, hk9⟩; have HM9 := Lib.hid hm9; clear hm9 hk9)
  clear HCA
  obtain ⟨v9, k9, hb9⟩ := HM9.out.h
  have HO := Lib.hid (own_below (best_own hb9 HM9.out.b0) (Below.refl _ _) hlw)
  have HBB := Lib.hid (hbz.trans (HM9.out.hb.mono hlw))
  obtain ⟨a9, d9, rfl, -⟩ := id HO.out
  have c2 := cell_k (k := 2) k9 rfl
  have c3 := cell_k (k := 3) k9 rfl
  have hb := Below.refl V9.heap.size V9
  clear k9 hb9 HM9
  refine wp_region_held_drew (S := (fun V => Below V9.heap.size V9 V)) (by kernel_rfl) ((Below.refl _ _).drew) (fun hHeld => ?_)
  refine take_op (i := 0) (d := 31) (v := ?_) rfl rfl (by kernel_rfl) (by kernel_rfl) (by kernel_rfl) (fun _ _ _ h => h) (Or.inl ⟨by rfl, ?hy0u33⟩) hHeld ?rest0u33
  case hy0u33 =>
    intro w' hS'
    go_simp
    try with_reducible rfl
  simp only [List.setIfInBounds_toArray, List.set_cons_zero, List.set_cons_succ]
  refine take_op (i := 1) (d := 32) (v := ?_) rfl rfl (by kernel_rfl) (by kernel_rfl) (by kernel_rfl) (fun _ _ _ h => h) (Or.inl ⟨by rfl, ?hy1u34⟩) hHeld ?rest1u34
  case hy1u34 =>
    intro w' hS'
    go_simp
    try with_reducible rfl
  simp only [List.setIfInBounds_toArray, List.set_cons_zero, List.set_cons_succ]
  refine take_op (i := 2) (d := 33) (v := ?_) rfl rfl (by kernel_rfl) (by kernel_rfl) (by kernel_rfl) (fun _ _ _ h => h) (Or.inl ⟨by rfl, ?hy2u35⟩) hHeld ?rest2u35
  case hy2u35 =>
    intro w' hS'
    go_simp
    try with_reducible rfl
  simp only [List.setIfInBounds_toArray, List.set_cons_zero, List.set_cons_succ]
  refine take_op (i := 3) (d := 34) (v := ?_) rfl rfl (by kernel_rfl) (by kernel_rfl) (by kernel_rfl) (fun _ _ _ h => h) (Or.inl ⟨by rfl, ?hy3u36⟩) hHeld ?rest3u36
  case hy3u36 =>
    intro w' hS'
    have c2 := cell_belowB hS' c2
    have c3 := cell_belowB hS' c3
    go_simp
    try with_reducible rfl
  simp only [List.setIfInBounds_toArray, List.set_cons_zero, List.set_cons_succ]
  refine take_op (i := 4) (d := 35) (v := ?_) rfl rfl (by kernel_rfl) (by kernel_rfl) (by kernel_rfl) (fun _ _ _ h => h) (Or.inl ⟨by rfl, ?hy4u37⟩) hHeld ?rest4u37
  case hy4u37 =>
    intro w' hS'
    go_simp
    try with_reducible rfl
  simp only [List.setIfInBounds_toArray, List.set_cons_zero, List.set_cons_succ]
  refine take_op (i := 5) (d := 36) (v := ?_) rfl rfl (by kernel_rfl) (by kernel_rfl) (by kernel_rfl) (fun _ _ _ h => h) (Or.inl ⟨by rfl, ?hy5u38⟩) hHeld ?rest5u38
  case hy5u38 =>
    intro w' hS'
    go_simp
    try with_reducible rfl
  simp only [List.setIfInBounds_toArray, List.set_cons_zero, List.set_cons_succ]
  refine take_op (i := 6) (d := 37) (v := ?_) rfl rfl (by kernel_rfl) (by kernel_rfl) (by kernel_rfl) (fun _ _ _ h => h) (Or.inl ⟨by rfl, ?hy6u39⟩) hHeld ?rest6u39
  case hy6u39 =>
    intro w' hS'
    go_simp
    try with_reducible rfl
  simp only [List.setIfInBounds_toArray, List.set_cons_zero, List.set_cons_succ]
  refine take_op (i := 7) (d := 38) (v := ?_) rfl rfl (by kernel_rfl) (by kernel_rfl) (by kernel_rfl) (fun _ _ _ h => h) (Or.inl ⟨by rfl, ?hy7u40⟩) hHeld ?rest7u40
  case hy7u40 =>
    intro w' hS'
    have c2 := cell_belowB hS' c2
    have c3 := cell_belowB hS' c3
    go_simp
    try with_reducible rfl
  simp only [List.setIfInBounds_toArray, List.set_cons_zero, List.set_cons_succ]
  refine take_op (i := 8) (d := 6) (v := ?_) rfl rfl (by kernel_rfl) (by kernel_rfl) (by kernel_rfl) (fun _ _ _ h => h) (Or.inl ⟨by rfl, ?hy8u41⟩) hHeld ?rest8u41
  case hy8u41 =>
    intro w' hS'
    go_simp
    try with_reducible rfl
  simp only [List.setIfInBounds_toArray, List.set_cons_zero, List.set_cons_succ]
  refine take_op (i := 9) (d := 7) (v := ?_) rfl rfl (by kernel_rfl) (by kernel_rfl) (by kernel_rfl) (fun _ _ _ h => h) (Or.inl ⟨by rfl, ?hy9u42⟩) hHeld ?rest9u42
  case hy9u42 =>
    intro w' hS'
    go_simp
    try with_reducible rfl
  simp only [List.setIfInBounds_toArray, List.set_cons_zero, List.set_cons_succ]
  refine take_op (i := 10) (d := 8) (v := ?_) rfl rfl (by kernel_rfl) (by kernel_rfl) (by kernel_rfl) (fun _ _ _ h => h) (Or.inl ⟨by rfl, ?hy10u43⟩) hHeld ?rest10u43
  case hy10u43 =>
    intro w' hS'
    go_simp
    try with_reducible rfl
  simp only [List.setIfInBounds_toArray, List.set_cons_zero, List.set_cons_succ]
  refine wpAnyH_done (by kernel_rfl) ?_ _
  revert hHeld
  generalize V9.drew = W1
  intro hHeld
  replace c2 := cell_belowB hHeld c2
  replace c3 := cell_belowB hHeld c3
  replace hb := hb.trans (hHeld.mono hb.size)
  clear hHeld
  have HF := Lib.hid (And.intro (own_below HO.out hb (Nat.le_refl _)) (HBB.out.trans (hb.mono HBB.out.size)))
  clear hb HO HBB
  go_wp2
  go_ret3
  exact ⟨⟨_, rfl, HF.out.1⟩, HF.out.2⟩

end Go.Proofs.YtckkemknajggpaaGreatDoor

namespace Go.Proofs.YtckkemknajggpaaGreatDoor
open Go.ChangeShapes Go.WideShapes Go.ChangeAt Go.RowKit Go.Deep Go.Joins

attribute [local go_sem] run_store_f

theorem keptBut_ofI {w w' : World} {E : TypeId} {b : Nat} {v : Value} {m : Int} {n : Nat} {e : Ending} (h : Marked w E b v m n e w') : KeptBut w w' v := fun j cs T fr hr hne => h.2.2.2 j _ hr (fun g n' c' ev e' => hne (by rw [ev, e']; rfl))

set_option maxRecDepth 100000 in
set_option maxHeartbeats 16000000 in
theorem lawSp_core (wd hg : Int) (sv dv pv : Value) (ws : List Wn) (ds : List Dk) (ps : List Pn) (xs : List Int) (hxs : xs.length ≤ 1000) (v1 v2 : Int) (e0 e1 e2 e3 : Addr)
    (hS : ∀ (s d p : Value) (W : World), WinsAt W s ws → DksAt W d ds → PnsAt W p ps → Calls Tryz.prog 7 #[.agg (roomC wd hg s), d, p] W fun e w' => (∃ v, e = .returned (.tuple #[v, .int .i64 v1, .int .i64 v2]) ∧ Own w' W.heap.size 2 (Value.int .i64) v xs) ∧ Below W.heap.size W w')
    (hI : ∀ (s d p : Value) (W : World), WinsAt W s ws → DksAt W d ds → PnsAt W p ps → ErrsAt W e0 e1 e2 e3 → Calls Tryz.prog 11 #[.agg (roomC wd hg s), d, p] W fun e w' => (∃ v, e = .returned (.tuple #[v, .int .i64 v1, .int .i64 v2]) ∧ Own w' W.heap.size 2 (Value.int .i64) v xs) ∧ Below W.heap.size W w')
    (w : World) (hws : WinsAt w sv ws) (hds : DksAt w dv ds) (hps : PnsAt w pv ps) (hE : ErrsAt w e0 e1 e2 e3) :
    Calls Tryz.prog 3 #[.agg (roomC wd hg sv), dv, pv] w fun e w' => e = .returned (.bool true) ∧ Below w.heap.size w w' := by
  have HA := Lib.hid hws
  have DA := Lib.hid hds
  have PA := Lib.hid hps
  have HX := Lib.hid hE
  have HA0 := Lib.hid hws
  have DA0 := Lib.hid hds
  have PA0 := Lib.hid hps
  have HX0 := Lib.hid hE
  have HS := Lib.hid hS
  have HI := Lib.hid hI
  have zc : (v1 != v1) = false := by simp
  have zc2 : (v2 != v2) = false := by simp
  obtain ⟨a0, cap0, esv, hl1, hl2, _⟩ := hws
  obtain ⟨d0, dc0, edv, hm1, hm2, _⟩ := hds
  obtain ⟨p0, pc0, epv, hk1, hk2, _⟩ := hps
  unfold maxLen at hl2 hm2 hk2
  have HZ1 := Lib.hid (fun w => szRoom_any wd hg a0 ws.length cap0 1048576 (by omega) (by decide) (by decide) w)
  rw [← esv] at HZ1
  have hr1 : leftI ws.length 1048576 < 0 ∨ (0 ≤ leftI ws.length 1048576 ∧ leftI ws.length 1048576 ≤ 1048576 ∧ ws.length ≤ 1048576) := by unfold leftI; split <;> omega
  generalize leftI (ws.length : Int) 1048576 = lf1 at *
  have HZ2 : Hid (0 ≤ lf1 → lf1 ≤ 1048576 → ∀ w, Calls Tryz.prog 5 #[dv, .int .i64 lf1] w fun e w' => e = .returned (.int .i64 (leftI ds.length lf1)) ∧ w = w') := Lib.hid (fun h0 h1 w => by rw [edv]; exact szDeskS_any d0 ds.length dc0 lf1 (by omega) h0 h1 w)
  have hr2 : 0 ≤ lf1 → lf1 ≤ 1048576 → leftI ds.length lf1 < 0 ∨ (0 ≤ leftI ds.length lf1 ∧ leftI ds.length lf1 ≤ 1048576 ∧ ds.length ≤ 1048576) := by intro h0 h1; unfold leftI; split <;> omega
  generalize leftI (ds.length : Int) lf1 = lf2 at *
  have HZ3 : Hid (0 ≤ lf2 → lf2 ≤ 1048576 → ∀ w, Calls Tryz.prog 6 #[pv, .int .i64 lf2] w fun e w' => e = .returned (.int .i64 (leftI ps.length lf2)) ∧ w = w') := Lib.hid (fun h0 h1 w => by rw [epv]; exact szPersonS_any p0 ps.length pc0 lf2 (by omega) h0 h1 w)
  have hr3 : 0 ≤ lf2 → lf2 ≤ 1048576 → leftI ps.length lf2 < 0 ∨ (0 ≤ leftI ps.length lf2 ∧ leftI ps.length lf2 ≤ 1048576 ∧ ps.length ≤ 1048576) := by intro h0 h1; unfold leftI; split <;> omega
  generalize leftI (ps.length : Int) lf2 = lf3 at *
  clear hl1 hl2 hm1 hm2 hk1 hk2 hE hS hI esv edv epv
  go_enter Tryz.func3, Tryz.ntmps3
  go_upto_region 1 with (fail)
  refine abs_world (fun W => W.heap[w.heap.size]? = some (.cells (roomC wd hg sv) 25 (0, 0)) ∧ Below w.heap.size w W) ⟨heap_alloc_new _ _, (Below.refl _ _).alloc (Nat.le_refl _) _⟩ ?_
  rintro W ⟨h0, hb⟩
  have H0 := Lib.hid h0
  replace HA := Lib.hid (wins_below HA.out hb)
  replace DA := Lib.hid (dks_below DA.out hb)
  replace PA := Lib.hid (pns_below PA.out hb)
  replace HX := Lib.hid (errs_below HX.out hb)
  clear h0
  rcases hr1 with hlf1 | ⟨ha1, hb1', hnw⟩
  · go_wp2_with (first | (refine wpList_load_part rfl 25 _ rfl w.heap.size 0 3 rfl 25 (roomC wd hg sv) (0, 0) _ H0.out Tryz.underlying25 rfl info_roomL (room_fits _ _ _) _ (room_all _ _ _) ?_) | (go_at_call 4; refine (HZ1.out _).mono ?_; rintro e W1 ⟨rfl, hb1⟩; replace H0 := Lib.hid (below_row hb1 H0.out); replace HA := Lib.hid (wins_below HA.out hb1); replace DA := Lib.hid (dks_below DA.out hb1); replace PA := Lib.hid (pns_below PA.out hb1); replace HX := Lib.hid (errs_below HX.out hb1); replace hb := hb.trans (hb1.mono hb.size); clear hb1))
    go_ret
    exact ⟨rfl, hb⟩
  replace HZ2 := Lib.hid (HZ2.out ha1 hb1')
  replace hr2 := hr2 ha1 hb1'
  have na1 : ¬ lf1 < 0 := by omega
  rcases hr2 with hlf2 | ⟨ha2, hb2', hnd⟩
  · go_wp2_with (first | (refine wpList_load_part rfl 25 _ rfl w.heap.size 0 3 rfl 25 (roomC wd hg sv) (0, 0) _ H0.out Tryz.underlying25 rfl info_roomL (room_fits _ _ _) _ (room_all _ _ _) ?_) | (go_at_call 4; refine (HZ1.out _).mono ?_; rintro e W1 ⟨rfl, hb1⟩; replace H0 := Lib.hid (below_row hb1 H0.out); replace HA := Lib.hid (wins_below HA.out hb1); replace DA := Lib.hid (dks_below DA.out hb1); replace PA := Lib.hid (pns_below PA.out hb1); replace HX := Lib.hid (errs_below HX.out hb1); replace hb := hb.trans (hb1.mono hb.size); clear hb1) | (go_at_call 5; refine (HZ2.out _).mono ?_; rintro e w1 ⟨rfl, rfl⟩))
    go_ret
    exact ⟨rfl, hb⟩
  replace HZ3 := Lib.hid (HZ3.out ha2 hb2')
  replace hr3 := hr3 ha2 hb2'
  have na2 : ¬ lf2 < 0 := by omega
  rcases hr3 with hlf3 | ⟨ha3, hb3', hnp⟩
  · go_wp2_with (first | (refine wpList_load_part rfl 25 _ rfl w.heap.size 0 3 rfl 25 (roomC wd hg sv) (0, 0) _ H0.out Tryz.underlying25 rfl info_roomL (room_fits _ _ _) _ (room_all _ _ _) ?_) | (go_at_call 4; refine (HZ1.out _).mono ?_; rintro e W1 ⟨rfl, hb1⟩; replace H0 := Lib.hid (below_row hb1 H0.out); replace HA := Lib.hid (wins_below HA.out hb1); replace DA := Lib.hid (dks_below DA.out hb1); replace PA := Lib.hid (pns_below PA.out hb1); replace HX := Lib.hid (errs_below HX.out hb1); replace hb := hb.trans (hb1.mono hb.size); clear hb1) | (go_at_call 5; refine (HZ2.out _).mono ?_; rintro e w1 ⟨rfl, rfl⟩) | (go_at_call 6; refine (HZ3.out _).mono ?_; rintro e w1 ⟨rfl, rfl⟩))
    go_ret
    exact ⟨rfl, hb⟩
  have na3 : ¬ lf3 < 0 := by omega
  go_upto_region 11 with (first | (refine wpList_load_part rfl 25 _ rfl w.heap.size 0 3 rfl 25 (roomC wd hg sv) (0, 0) _ H0.out Tryz.underlying25 rfl info_roomL (room_fits _ _ _) _ (room_all _ _ _) ?_) | (go_at_call 4; refine (HZ1.out _).mono ?_; rintro e W1 ⟨rfl, hb1⟩; replace H0 := Lib.hid (below_row hb1 H0.out); replace HA := Lib.hid (wins_below HA.out hb1); replace DA := Lib.hid (dks_below DA.out hb1); replace PA := Lib.hid (pns_below PA.out hb1); replace HX := Lib.hid (errs_below HX.out hb1); replace hb := hb.trans (hb1.mono hb.size); clear hb1) | (go_at_call 5; refine (HZ2.out _).mono ?_; rintro e w1 ⟨rfl, rfl⟩) | (go_at_call 6; refine (HZ3.out _).mono ?_; rintro e w1 ⟨rfl, rfl⟩))
  clear HZ1 HZ2 HZ3
  have hl1w := row_lt H0.out
  go_upto_region 12 with (first | (refine wpList_load_part rfl 25 _ rfl w.heap.size 0 3 rfl 25 (roomC wd hg sv) (0, 0) _ H0.out Tryz.underlying25 rfl info_roomL (room_fits _ _ _) _ (room_all _ _ _) ?_) | (go_at_call 8; refine (toRoom_any wd hg sv ws hnw _ HA.out).mono ?_; rintro e W2a ⟨⟨v3, rfl, hv⟩, hb1⟩; have O3 := Lib.hid hv; clear hv; have s2a := hb1.size; replace H0 := Lib.hid (below_row hb1 H0.out); replace HA := Lib.hid (wins_below HA.out hb1); replace DA := Lib.hid (dks_below DA.out hb1); replace PA := Lib.hid (pns_below PA.out hb1); replace HX := Lib.hid (errs_below HX.out hb1); replace hb := hb.trans (hb1.mono hb.size); clear hb1) | (go_at_call 9; refine (toDeskS_any dv ds hnd _ DA.out).mono ?_; rintro e W2b ⟨⟨d3, rfl, hv⟩, hb1⟩; have D3 := Lib.hid hv; clear hv; have s2b := hb1.size; replace H0 := Lib.hid (below_row hb1 H0.out); replace HA := Lib.hid (wins_below HA.out hb1); replace DA := Lib.hid (dks_below DA.out hb1); replace PA := Lib.hid (pns_below PA.out hb1); replace HX := Lib.hid (errs_below HX.out hb1); replace O3 := Lib.hid (ownW_below O3.out hb1 (Nat.le_refl _)); replace hb := hb.trans (hb1.mono hb.size); clear hb1) | (go_at_call 10; refine (toPersonS_any pv ps hnp _ PA.out).mono ?_; rintro e W2c ⟨⟨p3, rfl, hv⟩, hb1⟩; have P3 := Lib.hid hv; clear hv; have s2c := hb1.size; replace H0 := Lib.hid (below_row hb1 H0.out); replace HA := Lib.hid (wins_below HA.out hb1); replace DA := Lib.hid (dks_below DA.out hb1); replace PA := Lib.hid (pns_below PA.out hb1); replace HX := Lib.hid (errs_below HX.out hb1); replace O3 := Lib.hid (ownW_below O3.out hb1 (Nat.le_refl _)); replace D3 := Lib.hid (ownDk_below D3.out hb1 (Nat.le_refl _)); replace hb := hb.trans (hb1.mono hb.size); clear hb1) | (go_at_call 7; refine (HS.out _ _ _ _ (ownW_at O3.out) (ownDk_at D3.out) (ownPn_at P3.out)).mono ?_; rintro e W3 ⟨⟨v4, rfl, hv⟩, hb1⟩; have Q4 := Lib.hid hv; clear hv; have s3 := hb1.size; replace H0 := Lib.hid (below_row hb1 H0.out); replace HA := Lib.hid (wins_below HA.out hb1); replace DA := Lib.hid (dks_below DA.out hb1); replace PA := Lib.hid (pns_below PA.out hb1); replace HX := Lib.hid (errs_below HX.out hb1); replace hb := hb.trans (hb1.mono hb.size); clear hb1))
  have N4 : Hid (∀ j, Value.ownBlock v4 = some j → w.heap.size < j ∧ j < W3.heap.size) := Lib.hid (fun j hj => by have := own_rngU Q4.out j hj; omega)
  clear O3 D3 P3 HS
  go_upto_region 13 with (first | (refine wpList_load_part rfl 25 _ rfl w.heap.size 0 3 rfl 25 (roomC wd hg sv) (0, 0) _ H0.out Tryz.underlying25 rfl info_roomL (room_fits _ _ _) _ (room_all _ _ _) ?_) | (go_at_call 8; refine (toRoom_any wd hg sv ws hnw _ HA.out).mono ?_; rintro e W5 ⟨⟨v6, rfl, hv⟩, hb1⟩; have O6 := Lib.hid hv; clear hv; have s5 := hb1.size; replace H0 := Lib.hid (below_row hb1 H0.out); replace HA := Lib.hid (wins_below HA.out hb1); replace DA := Lib.hid (dks_below DA.out hb1); replace PA := Lib.hid (pns_below PA.out hb1); replace HX := Lib.hid (errs_below HX.out hb1); replace Q4 := Lib.hid (own_below Q4.out hb1 (Nat.le_refl _)); replace hb := hb.trans (hb1.mono hb.size); clear hb1) | (refine wpList_store_part rfl 36 _ _ rfl _ 0 (roomC wd hg v6) rfl rfl 36 _ (heap_alloc_new _ _) info_room (Nat.le_refl _) (room_one _ _ O6.out) ?_; rw [laid_allr _ _ (by rfl)]))
  have N6 : Hid (∀ j, Value.ownBlock v6 = some j → W3.heap.size ≤ j ∧ j < W5.heap.size) := Lib.hid (fun j hj => ownQ_rng (ownQ_ofW O6.out) j hj)
  refine abs_world (fun X => X.heap[w.heap.size]? = some (.cells (roomC wd hg sv) 25 (0, 0)) ∧ WinsAt X sv ws ∧ DksAt X dv ds ∧ PnsAt X pv ps ∧ ErrsAt X e0 e1 e2 e3 ∧ Own X W2c.heap.size 2 (Value.int .i64) v4 xs ∧ X.heap[W5.heap.size]? = some (.cells (roomC wd hg v6) 36 (0, 0)) ∧ OwnQ X W3.heap.size v6 ws ∧ Below w.heap.size w X) ⟨below_row (sbZ _ _ _) H0.out, wins_below HA.out (sbZ _ _ _), dks_below DA.out (sbZ _ _ _), pns_below PA.out (sbZ _ _ _), errs_below HX.out (sbZ _ _ _), own_below Q4.out (sbZ _ _ _) (Nat.le_refl _), setRow_heap _ _ _ _ _ _ (heap_alloc_new _ _), ownQ_below (ownQ_ofW O6.out) (sbZ _ _ _), hb.trans ((sbZ _ _ _).mono hb.size)⟩ ?_
  clear H0 HA DA PA HX Q4 O6 hb
  generalize W5.heap.size = b6 at *
  rintro Y2 ⟨h0, ha, da, pa, hx, q4, h6, q6, hb⟩
  have H0 := Lib.hid h0
  have HA := Lib.hid ha
  have DA := Lib.hid da
  have PA := Lib.hid pa
  have HX := Lib.hid hx
  have Q4 := Lib.hid q4
  have R6 := Lib.hid h6
  have Q6 := Lib.hid q6
  have hlb6 := row_lt h6
  clear h0 ha da pa hx q4 h6 q6
  go_upto_region 14 with (go_at_call 9; refine (toDeskS_any dv ds hnd _ DA.out).mono ?_; rintro e W7 ⟨⟨v7, rfl, hv⟩, hb1⟩; have D7 := Lib.hid hv; clear hv; have s7 := hb1.size; replace H0 := Lib.hid (below_row hb1 H0.out); replace HA := Lib.hid (wins_below HA.out hb1); replace DA := Lib.hid (dks_below DA.out hb1); replace PA := Lib.hid (pns_below PA.out hb1); replace HX := Lib.hid (errs_below HX.out hb1); replace Q4 := Lib.hid (own_below Q4.out hb1 (Nat.le_refl _)); replace R6 := Lib.hid (below_row hb1 R6.out); replace Q6 := Lib.hid (ownQ_below Q6.out hb1); replace hb := hb.trans (hb1.mono hb.size); clear hb1)
  have N7 : Hid (∀ j, Value.ownBlock v7 = some j → Y2.heap.size ≤ j ∧ j < W7.heap.size) := Lib.hid (fun j hj => ownDk_rng D7.out j hj)
  go_upto_region 15 with (go_at_call 10; refine (toPersonS_any pv ps hnp _ PA.out).mono ?_; rintro e W8 ⟨⟨v8, rfl, hv⟩, hb1⟩; have P8 := Lib.hid hv; clear hv; have s8 := hb1.size; replace H0 := Lib.hid (below_row hb1 H0.out); replace HA := Lib.hid (wins_below HA.out hb1); replace DA := Lib.hid (dks_below DA.out hb1); replace PA := Lib.hid (pns_below PA.out hb1); replace HX := Lib.hid (errs_below HX.out hb1); replace Q4 := Lib.hid (own_below Q4.out hb1 (Nat.le_refl _)); replace R6 := Lib.hid (below_row hb1 R6.out); replace Q6 := Lib.hid (ownQ_below Q6.out hb1); replace D7 := Lib.hid (ownDk_below D7.out hb1 (Nat.le_refl _)); replace hb := hb.trans (hb1.mono hb.size); clear hb1)
  have N8 : Hid (∀ j, Value.ownBlock v8 = some j → W7.heap.size ≤ j ∧ j < W8.heap.size) := Lib.hid (fun j hj => ownPn_rng P8.out j hj)
  go_upto_region 16 with (first | (refine wpList_load_part rfl 36 _ rfl b6 0 3 rfl 36 (roomC wd hg v6) (0, 0) _ R6.out Tryz.underlying36 rfl info_room (room_fits _ _ _) _ (room_all _ _ _) ?_) | (go_at_call 11; refine (HI.out _ _ _ _ (ownQ_at Q6.out) (ownDk_at D7.out) (ownPn_at P8.out) HX.out).mono ?_; rintro e W9 ⟨⟨v9, rfl, hv⟩, hb1⟩; have Q9 := Lib.hid hv; clear hv; replace H0 := Lib.hid (below_row hb1 H0.out); replace HA := Lib.hid (wins_below HA.out hb1); replace DA := Lib.hid (dks_below DA.out hb1); replace PA := Lib.hid (pns_below PA.out hb1); replace HX := Lib.hid (errs_below HX.out hb1); replace Q4 := Lib.hid (own_below Q4.out hb1 (Nat.le_refl _)); replace R6 := Lib.hid (below_row hb1 R6.out); replace Q6 := Lib.hid (ownQ_below Q6.out hb1); replace D7 := Lib.hid (ownDk_below D7.out hb1 (Nat.le_refl _)); replace P8 := Lib.hid (ownPn_below P8.out hb1 (Nat.le_refl _)); replace hb := hb.trans (hb1.mono hb.size); clear hb1))
  have N9 : Hid (∀ j, Value.ownBlock v9 = some j → W8.heap.size ≤ j) := Lib.hid (fun j hj => (own_rngU Q9.out j hj).1)
  go_upto_region 18 with (go_at_call 12; refine (eqI_same xs v9 v4 _ _ _ Q9.out Q4.out).mono ?_; rintro e W10 ⟨rfl, hb1⟩; replace H0 := Lib.hid (below_row hb1 H0.out); replace HA := Lib.hid (wins_below HA.out hb1); replace DA := Lib.hid (dks_below DA.out hb1); replace PA := Lib.hid (pns_below PA.out hb1); replace HX := Lib.hid (errs_below HX.out hb1); replace Q4 := Lib.hid (own_below Q4.out hb1 (Nat.le_refl _)); replace R6 := Lib.hid (below_row hb1 R6.out); replace Q6 := Lib.hid (ownQ_below Q6.out hb1); replace D7 := Lib.hid (ownDk_below D7.out hb1 (Nat.le_refl _)); replace P8 := Lib.hid (ownPn_below P8.out hb1 (Nat.le_refl _)); replace Q9 := Lib.hid (own_below Q9.out hb1 (Nat.le_refl _)); replace hb := hb.trans (hb1.mono hb.size); clear hb1)
  refine wp_region_held_drew (S := (fun V => Below W10.heap.size W10 V)) (by kernel_rfl) ((Below.refl _ _).drew) (fun hHeld => ?_)
  refine take_op (i := 0) (d := 77) (v := .agg (roomC wd hg v6)) rfl rfl (by kernel_rfl) (by kernel_rfl) (by kernel_rfl) (fun _ _ _ h => h) (yields_row (by rfl) 36 (.tmp 11) (by rfl) b6 0 3 (by rfl) 36 (roomC wd hg v6) (0, 0) _ (fun _ h => below_row h R6.out) Tryz.underlying36 rfl info_room (room_fits _ _ _) (roomC wd hg v6) (room_all _ _ _)) hHeld ?_
  simp only [List.setIfInBounds_toArray, List.set_cons_zero, List.set_cons_succ]
  refine take_op (i := 1) (d := 78) (v := .agg (roomC wd hg sv)) rfl rfl (by kernel_rfl) (by kernel_rfl) (by kernel_rfl) (fun _ _ _ h => h) (yields_row (by rfl) 25 (.tmp 3) (by rfl) w.heap.size 0 3 (by rfl) 25 (roomC wd hg sv) (0, 0) _ (fun _ h => below_row h H0.out) Tryz.underlying25 rfl info_roomL (room_fits _ _ _) (roomC wd hg sv) (room_all _ _ _)) hHeld ?_
  simp only [List.setIfInBounds_toArray, List.set_cons_zero, List.set_cons_succ]
  refine wpAnyH_ready (rs := [2]) (by kernel_rfl) (by simp) ?_
  refine AllReadyH.cons rfl (fun K hK => ?_) AllReadyH.nil
  go_simp
  refine (toRoom_any wd hg sv ws hnw _ (wins_below HA.out hHeld)).mono ?_
  rintro e Wa ⟨⟨v9a, rfl, hv9⟩, hb1⟩
  have HV9 := Lib.hid (ownW_at hv9)
  clear hv9
  refine hK.out _ _ (hHeld.trans (hb1.mono hHeld.size)) (fun hHeld2 => ?_)
  clear hK K
  replace hHeld := hHeld2
  clear hHeld2
  clear hb1
  refine wpAnyH_ready (rs := [3]) (by kernel_rfl) (by simp) ?_
  refine AllReadyH.cons rfl (fun K hK => ?_) AllReadyH.nil
  go_simp
  refine (eqRoom_any wd hg v6 v9a ws _ (ownQ_at (ownQ_below Q6.out hHeld)) HV9.out).mono ?_
  rintro e Wb ⟨rfl, hb1⟩
  refine hK.out _ _ (hHeld.trans (hb1.mono hHeld.size)) (fun hHeld2 => ?_)
  clear hK K
  replace hHeld := hHeld2
  clear hHeld2
  clear hb1 HV9
  refine take_op (i := 4) (d := 81) (v := ?_) rfl rfl (by kernel_rfl) (by kernel_rfl) (by kernel_rfl) (fun _ _ _ h => h) (Or.inl ⟨by rfl, ?hy4y68⟩) hHeld ?rest4y68
  case hy4y68 =>
    intro w' hS'
    go_simp
    try with_reducible rfl
  simp only [List.setIfInBounds_toArray, List.set_cons_zero, List.set_cons_succ]
  refine wpAnyH_done (by kernel_rfl) ?_ _
  replace H0 := Lib.hid (below_row hHeld H0.out)
  replace HA := Lib.hid (wins_below HA.out hHeld)
  replace DA := Lib.hid (dks_below DA.out hHeld)
  replace PA := Lib.hid (pns_below PA.out hHeld)
  replace HX := Lib.hid (errs_below HX.out hHeld)
  replace Q4 := Lib.hid (own_below Q4.out hHeld (Nat.le_refl _))
  replace R6 := Lib.hid (below_row hHeld R6.out)
  replace Q6 := Lib.hid (ownQ_below Q6.out hHeld)
  replace D7 := Lib.hid (ownDk_below D7.out hHeld (Nat.le_refl _))
  replace P8 := Lib.hid (ownPn_below P8.out hHeld (Nat.le_refl _))
  replace Q9 := Lib.hid (own_below Q9.out hHeld (Nat.le_refl _))
  replace hb := hb.trans (hHeld.mono hb.size)
  clear hHeld
  go_upto_region 24 with (first | (go_at_call 9; refine (toDeskS_any dv ds hnd _ DA.out).mono ?_; rintro e W11a ⟨⟨d11, rfl, hv⟩, hb1⟩; have D11 := Lib.hid hv; clear hv; skip; replace H0 := Lib.hid (below_row hb1 H0.out); replace HA := Lib.hid (wins_below HA.out hb1); replace DA := Lib.hid (dks_below DA.out hb1); replace PA := Lib.hid (pns_below PA.out hb1); replace HX := Lib.hid (errs_below HX.out hb1); replace Q4 := Lib.hid (own_below Q4.out hb1 (Nat.le_refl _)); replace R6 := Lib.hid (below_row hb1 R6.out); replace Q6 := Lib.hid (ownQ_below Q6.out hb1); replace D7 := Lib.hid (ownDk_below D7.out hb1 (Nat.le_refl _)); replace P8 := Lib.hid (ownPn_below P8.out hb1 (Nat.le_refl _)); replace Q9 := Lib.hid (own_below Q9.out hb1 (Nat.le_refl _)); replace hb := hb.trans (hb1.mono hb.size); clear hb1) | (go_at_call 14; refine (eqDeskS_any v7 d11 ds _ (ownDk_at D7.out) (ownDk_at D11.out)).mono ?_; rintro e W11b ⟨rfl, hb1⟩; replace H0 := Lib.hid (below_row hb1 H0.out); replace HA := Lib.hid (wins_below HA.out hb1); replace DA := Lib.hid (dks_below DA.out hb1); replace PA := Lib.hid (pns_below PA.out hb1); replace HX := Lib.hid (errs_below HX.out hb1); replace Q4 := Lib.hid (own_below Q4.out hb1 (Nat.le_refl _)); replace R6 := Lib.hid (below_row hb1 R6.out); replace Q6 := Lib.hid (ownQ_below Q6.out hb1); replace D7 := Lib.hid (ownDk_below D7.out hb1 (Nat.le_refl _)); replace P8 := Lib.hid (ownPn_below P8.out hb1 (Nat.le_refl _)); replace Q9 := Lib.hid (own_below Q9.out hb1 (Nat.le_refl _)); replace hb := hb.trans (hb1.mono hb.size); clear hb1) | (go_at_call 10; refine (toPersonS_any pv ps hnp _ PA.out).mono ?_; rintro e W11c ⟨⟨p11, rfl, hv⟩, hb1⟩; have P11 := Lib.hid hv; clear hv; skip; replace H0 := Lib.hid (below_row hb1 H0.out); replace HA := Lib.hid (wins_below HA.out hb1); replace DA := Lib.hid (dks_below DA.out hb1); replace PA := Lib.hid (pns_below PA.out hb1); replace HX := Lib.hid (errs_below HX.out hb1); replace Q4 := Lib.hid (own_below Q4.out hb1 (Nat.le_refl _)); replace R6 := Lib.hid (below_row hb1 R6.out); replace Q6 := Lib.hid (ownQ_below Q6.out hb1); replace D7 := Lib.hid (ownDk_below D7.out hb1 (Nat.le_refl _)); replace P8 := Lib.hid (ownPn_below P8.out hb1 (Nat.le_refl _)); replace Q9 := Lib.hid (own_below Q9.out hb1 (Nat.le_refl _)); replace hb := hb.trans (hb1.mono hb.size); clear hb1) | (go_at_call 15; refine (eqPersonS_any v8 p11 ps _ (ownPn_at P8.out) (ownPn_at P11.out)).mono ?_; rintro e W11d ⟨rfl, hb1⟩; replace H0 := Lib.hid (below_row hb1 H0.out); replace HA := Lib.hid (wins_below HA.out hb1); replace DA := Lib.hid (dks_below DA.out hb1); replace PA := Lib.hid (pns_below PA.out hb1); replace HX := Lib.hid (errs_below HX.out hb1); replace Q4 := Lib.hid (own_below Q4.out hb1 (Nat.le_refl _)); replace R6 := Lib.hid (below_row hb1 R6.out); replace Q6 := Lib.hid (ownQ_below Q6.out hb1); replace D7 := Lib.hid (ownDk_below D7.out hb1 (Nat.le_refl _)); replace P8 := Lib.hid (ownPn_below P8.out hb1 (Nat.le_refl _)); replace Q9 := Lib.hid (own_below Q9.out hb1 (Nat.le_refl _)); replace hb := hb.trans (hb1.mono hb.size); clear hb1))
  obtain ⟨k6, hk6⟩ : ∃ k6 : Int, k6 = 1 + 3 * (ws.length : Int) := ⟨_, rfl⟩
  obtain ⟨k7, hk7⟩ : ∃ k7 : Int, k7 = k6 + 3 * (ds.length : Int) := ⟨_, rfl⟩
  obtain ⟨k8, hk8⟩ : ∃ k8 : Int, k8 = k7 + 3 * (ps.length : Int) := ⟨_, rfl⟩
  have hz8 : ¬ k8 < 0 := by omega
  have hz8d : decide (k8 < 0) = false := decide_eq_false hz8
  have HMK6 : Hid (∀ (lo : Nat) (V : World), OwnQ V lo v6 ws → Calls Tryz.prog 16 #[.agg (roomC wd hg v6), .int .i64 1] V fun e w' => e = .returned (.int .i64 k6) ∧ MarkedQ w' v6 ws.length ∧ KeptBut V w' v6 ∧ (lo ≤ V.heap.size → Below lo V w')) := Lib.hid (by rw [hk6]; exact fun lo V h => markRoomQ wd hg lo v6 ws hnw V h)
  have HMK7 : Hid (∀ (lo : Nat) (V : World), OwnDk V lo v7 ds → Calls Tryz.prog 17 #[v7, .int .i64 k6] V fun e w' => e = .returned (.int .i64 k7) ∧ Below lo V w' ∧ KeptBut V w' v7) := Lib.hid (by rw [hk7]; exact fun lo V h => markDk_own lo v7 ds k6 (by omega) (by omega) V h)
  have HMK8 : Hid (∀ (lo : Nat) (V : World), OwnPn V lo v8 ps → Calls Tryz.prog 18 #[v8, .int .i64 k7] V fun e w' => e = .returned (.int .i64 k8) ∧ Below lo V w' ∧ KeptBut V w' v8) := Lib.hid (by rw [hk8]; exact fun lo V h => markPn_own lo v8 ps k7 (by omega) (by omega) V h)
  clear hk6 hk7 hk8
  go_upto_region 26 with (first | (refine wpList_load_part rfl 36 _ rfl b6 0 3 rfl 36 (roomC wd hg v6) (0, 0) _ R6.out Tryz.underlying36 rfl info_room (room_fits _ _ _) _ (room_all _ _ _) ?_) | (go_at_call 16; refine (HMK6.out _ _ Q6.out).mono ?_; rintro e W12 ⟨rfl, -, hkb, hbq⟩; replace H0 := Lib.hid (hkb _ _ _ _ H0.out (fun h => by have := N6.out _ h; omega)); replace Q4 := Lib.hid (own_kept Q4.out hkb (fun j hj h => by have a := N4.out j hj; have b := N6.out j h; omega)); replace D7 := Lib.hid (ownDk_kept D7.out hkb (fun j hj h => by have a := N7.out j hj; have b := N6.out j h; omega)); replace P8 := Lib.hid (ownPn_kept P8.out hkb (fun j hj h => by have a := N8.out j hj; have b := N6.out j h; omega)); replace Q9 := Lib.hid (own_kept Q9.out hkb (fun j hj h => by have a := N9.out j hj; have b := N6.out j h; omega)); replace hb := hb.trans ((hbq (by have := row_lt R6.out; omega)).mono (by omega)); clear hbq R6 Q6; replace HA := Lib.hid (wins_below HA0.out hb); replace DA := Lib.hid (dks_below DA0.out hb); replace PA := Lib.hid (pns_below PA0.out hb); replace HX := Lib.hid (errs_below HX0.out hb); clear hkb))
  go_upto_region 27 with (go_at_call 17; refine (HMK7.out _ _ D7.out).mono ?_; rintro e W13 ⟨rfl, hbq, hkb⟩; replace H0 := Lib.hid (hkb _ _ _ _ H0.out (fun h => by have := N7.out _ h; omega)); replace Q4 := Lib.hid (own_kept Q4.out hkb (fun j hj h => by have a := N4.out j hj; have b := N7.out j h; omega)); replace P8 := Lib.hid (ownPn_kept P8.out hkb (fun j hj h => by have a := N8.out j hj; have b := N7.out j h; omega)); replace Q9 := Lib.hid (own_kept Q9.out hkb (fun j hj h => by have a := N9.out j hj; have b := N7.out j h; omega)); replace hb := hb.trans (hbq.mono (by omega)); clear hbq D7; replace HA := Lib.hid (wins_below HA0.out hb); replace DA := Lib.hid (dks_below DA0.out hb); replace PA := Lib.hid (pns_below PA0.out hb); replace HX := Lib.hid (errs_below HX0.out hb); clear hkb)
  go_upto_region 28 with (go_at_call 18; refine (HMK8.out _ _ P8.out).mono ?_; rintro e W14 ⟨rfl, hbq, hkb⟩; replace H0 := Lib.hid (hkb _ _ _ _ H0.out (fun h => by have := N8.out _ h; omega)); replace Q4 := Lib.hid (own_kept Q4.out hkb (fun j hj h => by have a := N4.out j hj; have b := N8.out j h; omega)); replace Q9 := Lib.hid (own_kept Q9.out hkb (fun j hj h => by have a := N9.out j hj; have b := N8.out j h; omega)); replace hb := hb.trans (hbq.mono (by omega)); clear hbq P8; replace HA := Lib.hid (wins_below HA0.out hb); replace DA := Lib.hid (dks_below DA0.out hb); replace PA := Lib.hid (pns_below PA0.out hb); replace HX := Lib.hid (errs_below HX0.out hb); clear hkb)
  clear HMK6 HMK7 HMK8
  go_upto_region 31 with (go_at_call 12; refine (eqI_same xs v9 v4 _ _ _ Q9.out Q4.out).mono ?_; rintro e W10 ⟨rfl, hb1⟩; replace H0 := Lib.hid (below_row hb1 H0.out); replace HA := Lib.hid (wins_below HA.out hb1); replace DA := Lib.hid (dks_below DA.out hb1); replace PA := Lib.hid (pns_below PA.out hb1); replace HX := Lib.hid (errs_below HX.out hb1); replace Q4 := Lib.hid (own_below Q4.out hb1 (Nat.le_refl _)); replace Q9 := Lib.hid (own_below Q9.out hb1 (Nat.le_refl _)); replace hb := hb.trans (hb1.mono hb.size); clear hb1)
  have HMK9 := Lib.hid (fun V h => markI_any 1 xs v9 W8.heap.size V (by decide) (by decide) (by omega) h)
  have hzm : ¬ (1 + (xs.length : Int) < 0) := by omega
  have hzmd : decide (1 + (xs.length : Int) < 0) = false := decide_eq_false hzm
  have hzme : (1 + (xs.length : Int) != 1 + (xs.length : Int)) = false := by simp
  go_upto_region 33 with (go_at_call 19; refine (HMK9.out _ Q9.out).mono ?_; rintro e W15 hmk; have hkb := keptBut_ofI hmk; obtain ⟨rfl, hm9, hbq, -⟩ := hmk; replace H0 := Lib.hid (hkb _ _ _ _ H0.out (fun h => by have := N9.out _ h; omega)); replace Q4 := Lib.hid (own_kept Q4.out hkb (fun j hj h => by have a := N4.out j hj; have b := N9.out j h; omega)); replace hb := hb.trans (hbq.mono (by omega)); clear hbq Q9; replace HA := Lib.hid (wins_below HA0.out hb); replace DA := Lib.hid (dks_below DA0.out hb); replace PA := Lib.hid (pns_below PA0.out hb); replace HX := Lib.hid (errs_below HX0.out hb); clear hkb; have M9 := Lib.hid hm9; clear hm9)
  clear HMK9
  go_upto_region 38 with (go_at_call 20; refine (heldI_same 1 xs.length v9 _ _ (by decide) (by decide) (by omega) M9.out).mono ?_; rintro e W11 ⟨rfl, hb1⟩; replace H0 := Lib.hid (below_row hb1 H0.out); replace HA := Lib.hid (wins_below HA.out hb1); replace DA := Lib.hid (dks_below DA.out hb1); replace PA := Lib.hid (pns_below PA.out hb1); replace HX := Lib.hid (errs_below HX.out hb1); replace Q4 := Lib.hid (own_below Q4.out hb1 (Nat.le_refl _)); replace M9 := Lib.hid (own_below M9.out hb1 (Nat.le_refl _)); replace hb := hb.trans (hb1.mono hb.size); clear hb1)
  go_upto_region 39 with (first | (refine wpList_load_part rfl 25 _ rfl w.heap.size 0 3 rfl 25 (roomC wd hg sv) (0, 0) _ H0.out Tryz.underlying25 rfl info_roomL (room_fits _ _ _) _ (room_all _ _ _) ?_) | (go_at_call 8; refine (toRoom_any wd hg sv ws hnw _ HA.out).mono ?_; rintro e W16a ⟨⟨v16, rfl, hv⟩, hb1⟩; have O16 := Lib.hid hv; clear hv; skip; replace H0 := Lib.hid (below_row hb1 H0.out); replace HA := Lib.hid (wins_below HA.out hb1); replace DA := Lib.hid (dks_below DA.out hb1); replace PA := Lib.hid (pns_below PA.out hb1); replace HX := Lib.hid (errs_below HX.out hb1); replace Q4 := Lib.hid (own_below Q4.out hb1 (Nat.le_refl _)); replace M9 := Lib.hid (own_below M9.out hb1 (Nat.le_refl _)); replace hb := hb.trans (hb1.mono hb.size); clear hb1) | (go_at_call 9; refine (toDeskS_any dv ds hnd _ DA.out).mono ?_; rintro e W16b ⟨⟨d16, rfl, hv⟩, hb1⟩; have D16 := Lib.hid hv; clear hv; replace O16 := Lib.hid (ownW_below O16.out hb1 (Nat.le_refl _)); replace H0 := Lib.hid (below_row hb1 H0.out); replace HA := Lib.hid (wins_below HA.out hb1); replace DA := Lib.hid (dks_below DA.out hb1); replace PA := Lib.hid (pns_below PA.out hb1); replace HX := Lib.hid (errs_below HX.out hb1); replace Q4 := Lib.hid (own_below Q4.out hb1 (Nat.le_refl _)); replace M9 := Lib.hid (own_below M9.out hb1 (Nat.le_refl _)); replace hb := hb.trans (hb1.mono hb.size); clear hb1) | (go_at_call 10; refine (toPersonS_any pv ps hnp _ PA.out).mono ?_; rintro e W16c ⟨⟨p16, rfl, hv⟩, hb1⟩; have P16 := Lib.hid hv; clear hv; replace O16 := Lib.hid (ownW_below O16.out hb1 (Nat.le_refl _)); replace D16 := Lib.hid (ownDk_below D16.out hb1 (Nat.le_refl _)); replace H0 := Lib.hid (below_row hb1 H0.out); replace HA := Lib.hid (wins_below HA.out hb1); replace DA := Lib.hid (dks_below DA.out hb1); replace PA := Lib.hid (pns_below PA.out hb1); replace HX := Lib.hid (errs_below HX.out hb1); replace Q4 := Lib.hid (own_below Q4.out hb1 (Nat.le_refl _)); replace M9 := Lib.hid (own_below M9.out hb1 (Nat.le_refl _)); replace hb := hb.trans (hb1.mono hb.size); clear hb1) | (go_at_call 11; refine (HI.out _ _ _ _ (ownW_at O16.out) (ownDk_at D16.out) (ownPn_at P16.out) HX.out).mono ?_; rintro e W17 ⟨⟨v12, rfl, hv⟩, hb1⟩; have Q12 := Lib.hid hv; clear hv; replace H0 := Lib.hid (below_row hb1 H0.out); replace HA := Lib.hid (wins_below HA.out hb1); replace DA := Lib.hid (dks_below DA.out hb1); replace PA := Lib.hid (pns_below PA.out hb1); replace HX := Lib.hid (errs_below HX.out hb1); replace Q4 := Lib.hid (own_below Q4.out hb1 (Nat.le_refl _)); replace M9 := Lib.hid (own_below M9.out hb1 (Nat.le_refl _)); replace hb := hb.trans (hb1.mono hb.size); clear hb1))
  clear O16 D16 P16 HI
  go_wp2_with (first | (go_at_call 12; refine (eqI_same xs v12 v4 _ _ _ Q12.out Q4.out).mono ?_; rintro e W10 ⟨rfl, hb1⟩; replace H0 := Lib.hid (below_row hb1 H0.out); replace HA := Lib.hid (wins_below HA.out hb1); replace DA := Lib.hid (dks_below DA.out hb1); replace PA := Lib.hid (pns_below PA.out hb1); replace HX := Lib.hid (errs_below HX.out hb1); replace Q4 := Lib.hid (own_below Q4.out hb1 (Nat.le_refl _)); replace M9 := Lib.hid (own_below M9.out hb1 (Nat.le_refl _)); replace Q12 := Lib.hid (own_below Q12.out hb1 (Nat.le_refl _)); replace hb := hb.trans (hb1.mono hb.size); clear hb1) | (go_at_call 20; refine (heldI_same 1 xs.length v9 _ _ (by decide) (by decide) (by omega) M9.out).mono ?_; rintro e W11 ⟨rfl, hb1⟩; replace H0 := Lib.hid (below_row hb1 H0.out); replace HA := Lib.hid (wins_below HA.out hb1); replace DA := Lib.hid (dks_below DA.out hb1); replace PA := Lib.hid (pns_below PA.out hb1); replace HX := Lib.hid (errs_below HX.out hb1); replace Q4 := Lib.hid (own_below Q4.out hb1 (Nat.le_refl _)); replace M9 := Lib.hid (own_below M9.out hb1 (Nat.le_refl _)); replace hb := hb.trans (hb1.mono hb.size); clear hb1))
  go_ret
  exact ⟨rfl, hb⟩

end Go.Proofs.YtckkemknajggpaaGreatDoor

namespace Go.Proofs.YtckkemknajggpaaGreatDoor
open Go.RowKit Go.ChangeShapes Go.WideShapes

set_option maxRecDepth 100000 in
theorem open_desks {H : Type} {enc : TypeId × Value → H} {W : World} {b0 base : Nat} {spare : Nat → Bool} {held : Bool} {r : Reach} {v : Value} {d : DataW H} {p : List MemPlace}
    (hv : Value.okWide Tryz.prog W r b0 26 v) (h : DataW.Trod enc Tryz.prog W base spare held 26 v d p) : ∃ ts, DksAt W v ts ∧ ∀ x ∈ ts, DkWf x := by
  obtain ⟨a0, len0, cap0, rfl⟩ := okWide_slice Tryz.underlying26 hv
  obtain ⟨fuel, hf⟩ := h
  exact open_dks hf

theorem codeD_ref {ok pok da : Bool} {nd np : Nat} (hp : pok = true) : (codeD ok (true && da) nd ≠ 0 → (refN (ok && pok) da (limB nd np) : Int) = codeD ok (true && da) nd) ∧ (codeD ok (true && da) nd = 0 → 8 < np → refN (ok && pok) da (limB nd np) = 3) ∧ (codeD ok (true && da) nd = 0 → np ≤ 8 → refN (ok && pok) da (limB nd np) = 0 ∧ ok = true ∧ da = true ∧ nd ≤ 8) := by
  subst hp
  have l1 : limB nd np = (!decide (8 < nd) && !decide (8 < np)) := by
    unfold limB
    rw [Bool.eq_iff_iff]
    simp
    omega
  rw [l1]
  unfold codeD refN
  cases ok <;> cases da <;> by_cases h1 : 8 < nd <;> by_cases h2 : 8 < np <;> simp [h1, h2] <;> omega

end Go.Proofs.YtckkemknajggpaaGreatDoor

namespace Go.Proofs.YtckkemknajggpaaGreatDoor
open Go.RowKit Go.ChangeShapes Go.WideShapes

theorem walk_len {D N : Nat} {f : Nat → List Int × Int → List Int × Int} (h : ∀ k st, st.1.length ≤ N → (f k st).1.length ≤ N) : ∀ st : List Int × Int, st.1.length ≤ N → (walkD f D st).1.length ≤ N := by
  induction D with
  | zero => exact fun st hs => hs
  | succ D ih => exact fun st hs => h D _ (ih st hs)

/-- The best seats are no more than the people. -/
theorem frm_len (A : Nat → Nat → Bool) (D : Nat) : ∀ (l : Nat) (s : List Int) (t c : Nat) (st : List Int × Int) (N : Nat), st.1.length ≤ N → s.length + l ≤ N → (frmS A D l s t c st).1.length ≤ N
  | 0, s, t, c, st, N, h1, h2 => by
    rw [frmS]
    split
    · exact h1
    · exact h2
  | l + 1, s, t, c, st, N, h1, h2 => by
    rw [frmS]
    split
    · exact h1
    · refine frm_len A D l _ _ _ _ N (walk_len (fun k st hs => ?_) st h1) (by rw [List.length_append, List.length_singleton]; omega)
      split
      · exact frm_len A D l _ _ _ _ N hs (by rw [List.length_append, List.length_singleton]; omega)
      · exact hs

theorem FnExactSeatPeople_walk (wd hg : Int) (sv : Value) (ws : List Wn) (rw0 : RmWf wd hg ws) (dv : Value) (ds : List Dk) (hdf : ∀ x ∈ ds, DkWf x) (pv : Value) (ps : List Pn) (_ : ∀ x ∈ ps, PnWf x) (w : World) (hws : WinsAt w sv ws) (hds : DksAt w dv ds) (hps : PnsAt w pv ps) {e0 e1 e2 e3 : Addr} (hE : ErrsAt w e0 e1 e2 e3) :
    Calls Tryz.prog 3 #[.agg (roomC wd hg sv), dv, pv] w fun e w' => e = .returned (.bool true) ∧ Below w.heap.size w w' := by
  obtain ⟨iw, ih, hwf⟩ := rw0
  have bad : ∀ (k : Nat), (k = 1 ∨ k = 2 ∨ k = 3) → refN (okRm wd hg ws && ps.all fitP) (ds.all (fitD wd hg)) (limB ds.length ps.length) = k → SbAns (ps.all fitP) (codeD (okRm wd hg ws) (true && ds.all (fitD wd hg)) ds.length) ps.length (k : Int) [] (ds.map (sbD wd hg ws ps)) →
      Calls Tryz.prog 3 #[.agg (roomC wd hg sv), dv, pv] w fun e w' => e = .returned (.bool true) ∧ Below w.heap.size w w' := by
    intro k hk hn ha
    refine lawSp_core wd hg sv dv pv ws ds ps [] (by decide) 0 (k : Int) e0 e1 e2 e3 (fun s d p W h1 h2 h3 => sSp_no wd hg iw ih s d p ws hwf ds hdf ps (k : Int) (by omega) [] ha W h1 h2 h3) (fun s d p W h1 h2 h3 h4 => ?_) w hws hds hps hE
    have none_own : ∀ X : World, Own X W.heap.size 2 (Value.int .i64) (.slice none 0 0) ([] : List Int) := fun X => ⟨none, 0, rfl, by unfold maxLen; omega, Nat.le_refl _, .inl ⟨rfl, rfl⟩⟩
    rcases hk with rfl | rfl | rfl
    · exact (iSp_n1 wd hg s d p ws ds ps e0 e1 e2 e3 W h1 h2 h3 h4 hn).mono (fun e w' h => ⟨⟨_, h.1, none_own w'⟩, h.2⟩)
    · exact (iSp_n2 wd hg s d p ws ds ps e0 e1 e2 e3 W h1 h2 h3 h4 hn).mono (fun e w' h => ⟨⟨_, h.1, none_own w'⟩, h.2⟩)
    · exact (iSp_n3 wd hg s d p ws ds ps e0 e1 e2 e3 W h1 h2 h3 h4 hn).mono (fun e w' h => ⟨⟨_, h.1, none_own w'⟩, h.2⟩)
  cases hp : ps.all fitP with
  | false =>
    refine bad 1 (.inl rfl) ?_ ⟨fun _ => ⟨rfl, rfl⟩, fun h => ?_, fun h => ?_, fun h => ?_⟩
    · rw [hp]; unfold refN; simp
    all_goals rw [hp] at h; cases h
  | true =>
    obtain ⟨h1, h2, h3⟩ := codeD_ref (ok := okRm wd hg ws) (da := ds.all (fitD wd hg)) (nd := ds.length) (np := ps.length) hp
    by_cases hc : codeD (okRm wd hg ws) (true && ds.all (fitD wd hg)) ds.length = 0
    · by_cases hm : 8 < ps.length
      · refine bad 3 (.inr (.inr rfl)) (h2 hc hm) ⟨fun h => ?_, fun _ h => absurd hc h, fun _ _ _ => ⟨rfl, rfl⟩, fun _ _ h => absurd h (by omega)⟩
        rw [hp] at h; cases h
      · obtain ⟨e0', hv, ha, hd⟩ := h3 hc (by omega)
        have hans : SbAns (ps.all fitP) (codeD (okRm wd hg ws) (true && ds.all (fitD wd hg)) ds.length) ps.length 0 (ds.map (sbD wd hg ws ps)) (ds.map (sbD wd hg ws ps)) := ⟨fun h => (by rw [hp] at h; cases h), fun _ h => absurd hc h, fun _ _ h => absurd h (by omega), fun _ _ _ => ⟨rfl, rfl⟩⟩
        obtain ⟨ys, hy1, hy2, hy3⟩ := sbD_nats wd hg ws ps (by omega) ds
        have hyl : ys.length ≤ 8 := by omega
        have hlen : (seatsB ys ps.length).1.length ≤ 1000 := frm_len _ _ _ _ _ _ _ 1000 (by simp) (by simp; omega)
        exact lawSp_core wd hg sv dv pv ws ds ps (seatsB ys ps.length).1 hlen (seatsB ys ps.length).2 0 e0 e1 e2 e3 (fun s d p W q1 q2 q3 => sSp_yes wd hg iw ih s d p ws hwf ds hdf ps (by omega) ys hyl hy3 (by rw [← hy1]; exact hans) W q1 q2 q3) (fun s d p W q1 q2 q3 q4 => iSp_y wd hg s d p ws ds ps (okRm_get hv) hwf e0 e1 e2 e3 W q1 q2 q3 q4 e0' ha hd (by omega) ys hy1 hyl hy3) w hws hds hps hE
    · have hk := h1 hc
      have hk2 : refN (okRm wd hg ws && ps.all fitP) (ds.all (fitD wd hg)) (limB ds.length ps.length) = 1 ∨ refN (okRm wd hg ws && ps.all fitP) (ds.all (fitD wd hg)) (limB ds.length ps.length) = 2 ∨ refN (okRm wd hg ws && ps.all fitP) (ds.all (fitD wd hg)) (limB ds.length ps.length) = 3 ∨ refN (okRm wd hg ws && ps.all fitP) (ds.all (fitD wd hg)) (limB ds.length ps.length) = 0 := by
        unfold refN; split; exact .inl rfl; split; exact .inr (.inl rfl); split; exact .inr (.inr (.inl rfl)); exact .inr (.inr (.inr rfl))
      have hz : refN (okRm wd hg ws && ps.all fitP) (ds.all (fitD wd hg)) (limB ds.length ps.length) ≠ 0 := fun h => hc (by rw [← hk, h]; rfl)
      refine bad _ (by omega) rfl ⟨fun h => ?_, fun _ _ => ⟨hk, rfl⟩, fun _ h => absurd h hc, fun _ h => absurd h hc⟩
      rw [hp] at h; cases h

end Go.Proofs.YtckkemknajggpaaGreatDoor

namespace Go.Proofs.YtckkemknajggpaaGreatDoor
open Go.ChangeShapes Go.WideShapes Go.ChangeAt Go.RowKit

set_option maxRecDepth 100000 in
theorem cells_i16 : Tryz.prog.cellsOf 159 = 1 := by kernel_rfl

def rd16 : Value → Int | .int _ n => n | _ => 0

end Go.Proofs.YtckkemknajggpaaGreatDoor
