/-
  For every blind and list of heights, valid or not: what passes is what the model says, in memory of its own, and the list is as it was. No conditions.
-/
import Derived.Test.YtelgcggcmjdhjabPaS
import Derived.Test.YtelgcggcmjdhjabLeave
namespace Go.Proofs.Ytelgcggcmjdhjab
open Go.ChangeShapes Go.WideShapes Go.ChangeAt Go.RowKit Go.Deep Go.Joins

theorem own_markedA {α : Type} {w w' : World} {b B : Nat} {E : TypeId} {mk : α → Value} {v v1 : Value} {xs : List α} {m : Int} {n : Nat} {e : Ending} {E1 : TypeId} {b1 : Nat} (h : Own w b E mk v xs) (ha : Above v B) (hu : Under v1 B) (hm : Marked w E1 b1 v1 m n e w') : Own w' b E mk v xs := by
  obtain ⟨a, c, rfl, h2, h3, h4⟩ := h
  refine ⟨a, c, rfl, h2, h3, h4.imp id ?_⟩
  rintro ⟨g, cur, rfl, hg, hc, hk⟩
  refine ⟨g, cur, rfl, hg, hm.2.2.2 g _ hc ?_, hk⟩
  intro g' n' c' e'
  have h5 := ha g _ _ rfl
  have h6 := hu g' _ _ e'
  omega
theorem own_markedF {α : Type} {w w' : World} {b B : Nat} {E : TypeId} {mk : α → Value} {v v1 : Value} {xs : List α} {m : Int} {n : Nat} {e : Ending} {E1 : TypeId} (h : Own w b E mk v xs) (hu : Under v B) (ha : Above v1 B) (hm : MarkedF w E1 B v1 m n e w') : Own w' b E mk v xs := by
  obtain ⟨a, c, rfl, h2, h3, h4⟩ := h
  refine ⟨a, c, rfl, h2, h3, h4.imp id ?_⟩
  rintro ⟨g, cur, rfl, hg, hc, hk⟩
  refine ⟨g, cur, rfl, hg, hm.2.2.2 g _ hc ?_, hk⟩
  intro g' n' c' e'
  have h5 := hu g _ _ rfl
  have h6 := ha g' _ _ e'
  omega
theorem row_markedF {w w' : World} {B g : Nat} {v1 : Value} {m : Int} {n : Nat} {e : Ending} {E1 : TypeId} {o : Obj} (h : w.heap[g]? = some o) (hg : g < B) (ha : Above v1 B) (hm : MarkedF w E1 B v1 m n e w') : w'.heap[g]? = some o := by
  refine hm.2.2.2 g o h ?_
  intro g' n' c' e'
  have h6 := ha g' _ _ e'
  omega
theorem pasL_len (wd gp : Nat) (t : Int) (sh : Nat) (zs : List Int) : (pasL wd gp t sh zs).length = zs.length := List.length_map ..
theorem pasL_fin (wd gp : Nat) (t : Int) {sh : Nat} (hs : sh ≤ 1065353216 ∨ sh = 2147483648) (zs : List Int) : ∀ x ∈ pasL wd gp t sh zs, fin32 x = true := by
  intro x hx
  obtain ⟨h, _, rfl⟩ := List.mem_map.1 hx
  exact fin_of_lt (pas_facts wd gp t hs h).2.2.2.2

set_option maxRecDepth 100000 in
set_option maxHeartbeats 16000000 in
theorem FnExactPassAll_core (n : Int) (wd gp : Nat) (t : Int) (sh : Nat) (sv : Value) (zs : List Int) (xs : List Nat) (c : Int) (hn : xs.length ≤ 1000) (hfin : ∀ x ∈ xs, fin32 x = true) (w : World) (hz : IntsAt w sv zs)
    (hspec : ∀ w u, IntsAt w u zs → Calls Try.prog 34 #[.agg (blindC n wd gp t sh), u] w (RetF xs c w))
    (himpl : ∀ w u, IntsAt w u zs → Calls Try.prog 36 #[.agg (blindC n wd gp t sh), u] w (RetF xs c w)) :
    Calls Try.prog 8 #[.agg (blindC n wd gp t sh), sv] w fun e w' => e = .returned (.bool true) ∧ Below w.heap.size w w' := by
  have HS := Lib.hid hspec
  have HI := Lib.hid himpl
  have HZ := Lib.hid hz
  have HFI := Lib.hid hfin
  clear hspec himpl hfin
  obtain ⟨a0, cap0, esv, _⟩ := hz
  subst esv
  go_enter Try.func8, Try.ntmps8
  go_upto_region 1 with (fail)
  refine abs_world (fun W => Below w.heap.size w W ∧ W.heap[w.heap.size]? = some (.cells (blindC n wd gp t sh) 28 (0, 0))) ⟨(Below.refl _ _).alloc (Nat.le_refl _) _, heap_alloc_new _ _⟩ ?_
  rintro W ⟨hb, h0⟩
  have H0 := Lib.hid h0
  clear h0
  by_cases hlen : zs.length ≤ 1048576
  · have zl : ((zs.length : Nat) : Int) ≤ 1048576 := by omega
    have z0 : decide ((1 : Int) + (xs.length : Int) < 0) = false := by apply decide_eq_false; omega
    have z0' : decide ((1 : Int) + (zs.length : Int) < 0) = false := by apply decide_eq_false; omega
    have zc : (c != c) = false := by simp
    have zn : ((1 : Int) + (xs.length : Int) != 1 + (xs.length : Int)) = false := by simp
    go_upto_region 4 with (first | (refine wpList_load_part rfl 28 _ rfl w.heap.size 0 5 rfl 28 (blindC n wd gp t sh) (0, 0) _ H0.out Try.underlying28 rfl info_blindL (blind_fits _ _ _ _ _) _ (blind_all _ _ _ _ _) ?_) | (go_at_call 12; refine (toBlind_any _ _ _ _ _ _).mono ?_; rintro e W9 ⟨rfl, hb1⟩; replace H0 := Lib.hid (below_row hb1 H0.out); replace hb := hb.trans (hb1.mono hb.size); clear hb1) | (go_at_call 35; refine (toInt64S_own _ zs hlen _ (ints_below HZ.out hb)).mono ?_; rintro e W0 ⟨⟨i0, rfl, hv⟩, hb1⟩; have HI0 := Lib.hid hv; clear hv; replace H0 := Lib.hid (below_row hb1 H0.out); replace hb := hb.trans (hb1.mono hb.size); clear hb1) | (go_at_call 34; refine (HS.out _ _ (own_ints HI0.out)).mono ?_; rintro e U0 ⟨⟨f0, rfl, hv⟩, hb1⟩; have HF0 := Lib.hid hv; clear hv; replace H0 := Lib.hid (below_row hb1 H0.out); replace hb := hb.trans (hb1.mono hb.size); clear hb1))
    clear HI0 HS
    have hu0 := under_of HF0.out
    have hg1 := row_lt H0.out
    obtain ⟨B1, hB1⟩ : ∃ B1, B1 = U0.heap.size := ⟨_, rfl⟩
    rw [← hB1] at hu0 hg1
    go_upto_region 5 with (go_at_call 35; refine (toInt64S_own _ zs hlen _ (ints_below HZ.out hb)).mono ?_; rintro e W1 ⟨⟨i1, rfl, hv⟩, hb1⟩; rw [← hB1] at hv; have HI1 := Lib.hid hv; clear hv; replace H0 := Lib.hid (below_row hb1 H0.out); replace HF0 := Lib.hid (own_below HF0.out hb1 (Nat.le_refl _)); replace hb := hb.trans (hb1.mono hb.size); clear hb1)
    clear hB1
    have hu1 := under_of HI1.out
    obtain ⟨B2, hB2⟩ : ∃ B2, B2 = W1.heap.size := ⟨_, rfl⟩
    have hg2 := row_lt H0.out
    have hu0b := under_of HF0.out
    rw [← hB2] at hu1 hg2 hu0b
    go_upto_region 6 with (first | (refine wpList_load_part rfl 28 _ rfl w.heap.size 0 5 rfl 28 (blindC n wd gp t sh) (0, 0) _ H0.out Try.underlying28 rfl info_blindL (blind_fits _ _ _ _ _) _ (blind_all _ _ _ _ _) ?_) | (go_at_call 12; refine (toBlind_any _ _ _ _ _ _).mono ?_; rintro e W9 ⟨rfl, hb1⟩; have hsz := hb1.size; replace H0 := Lib.hid (below_row hb1 H0.out); replace HF0 := Lib.hid (own_below HF0.out hb1 (Nat.le_refl _)); replace HI1 := Lib.hid (own_below HI1.out hb1 (Nat.le_refl _)); replace hb := hb.trans (hb1.mono hb.size); clear hb1) | (go_at_call 36; refine (HI.out _ _ (own_ints HI1.out)).mono ?_; rintro e U2 ⟨⟨f2, rfl, hv⟩, hb1⟩; obtain ⟨B3, hv, hle⟩ : ∃ B3, Own U2 B3 22 (Value.float .f32) f2 xs ∧ B2 ≤ B3 := ⟨_, hv, by have := hB2; omega⟩; have HF2 := Lib.hid hv; clear hv; replace H0 := Lib.hid (below_row hb1 H0.out); replace HF0 := Lib.hid (own_below HF0.out hb1 (Nat.le_refl _)); replace HI1 := Lib.hid (own_below HI1.out hb1 (Nat.le_refl _)); replace hb := hb.trans (hb1.mono hb.size); clear hb1))
    go_upto_region 8 with (go_at_call 17; refine (eqF_same xs HFI.out f2 f0 _ _ _ HF2.out HF0.out).mono ?_; rintro e X1 ⟨rfl, hb1⟩; replace H0 := Lib.hid (below_row hb1 H0.out); replace HF0 := Lib.hid (own_below HF0.out hb1 (Nat.le_refl _)); replace HI1 := Lib.hid (own_below HI1.out hb1 (Nat.le_refl _)); replace HF2 := Lib.hid (own_below HF2.out hb1 (Nat.le_refl _)); replace hb := hb.trans (hb1.mono hb.size); clear hb1)
    go_upto_region 11 with (first | (go_at_call 35; refine (toInt64S_own _ zs hlen _ (ints_below HZ.out hb)).mono ?_; rintro e W3 ⟨⟨i3, rfl, hv⟩, hb1⟩; have HI3 := Lib.hid hv; clear hv; replace H0 := Lib.hid (below_row hb1 H0.out); replace HF0 := Lib.hid (own_below HF0.out hb1 (Nat.le_refl _)); replace HI1 := Lib.hid (own_below HI1.out hb1 (Nat.le_refl _)); replace HF2 := Lib.hid (own_below HF2.out hb1 (Nat.le_refl _)); replace hb := hb.trans (hb1.mono hb.size); clear hb1) | (go_at_call 28; refine (eqI_same zs i1 i3 _ _ _ HI1.out HI3.out).mono ?_; rintro e X2 ⟨rfl, hb1⟩; replace H0 := Lib.hid (below_row hb1 H0.out); replace HF0 := Lib.hid (own_below HF0.out hb1 (Nat.le_refl _)); replace HI1 := Lib.hid (own_below HI1.out hb1 (Nat.le_refl _)); replace HF2 := Lib.hid (own_below HF2.out hb1 (Nat.le_refl _)); replace hb := hb.trans (hb1.mono hb.size); clear hb1))
    clear HI3
    go_upto_region 12 with (go_at_call 29; refine (markI_any 1 zs i1 B1 _ (by decide) (by decide) (by omega) HI1.out).mono ?_; intro e Y1 hm; have hA := above_of HI1.out; replace HF0 := Lib.hid (own_marked HF0.out hu0 hA hm); replace HF2 := Lib.hid (own_markedA HF2.out (above_of HF2.out) (under_mono hu1 hle) hm); replace H0 := Lib.hid (row_marked H0.out hg1 hA hm); replace hb := hb.trans (hm.2.2.1.mono (Nat.le_of_lt hg1)); obtain rfl := hm.1; clear hm hA)
    clear HI1
    go_upto_region 15 with (go_at_call 17; refine (eqF_same xs HFI.out f2 f0 _ _ _ HF2.out HF0.out).mono ?_; rintro e X1 ⟨rfl, hb1⟩; replace H0 := Lib.hid (below_row hb1 H0.out); replace HF0 := Lib.hid (own_below HF0.out hb1 (Nat.le_refl _)); replace HF2 := Lib.hid (own_below HF2.out hb1 (Nat.le_refl _)); replace hb := hb.trans (hb1.mono hb.size); clear hb1)
    go_upto_region 16 with (go_at_call 20; refine (markF_any 1 xs f2 B3 _ (by decide) (by decide) (by omega) HF2.out).mono ?_; intro e Y2 hm; have hA := above_of HF2.out; replace HF0 := Lib.hid (own_markedF HF0.out (under_mono hu0b hle) hA hm); replace H0 := Lib.hid (row_markedF H0.out (Nat.lt_of_lt_of_le hg2 hle) hA hm); replace hb := hb.trans (hm.2.2.1.mono (Nat.le_trans (Nat.le_of_lt hg2) hle)); replace HF2 := Lib.hid hm.2.1; obtain rfl := hm.1; clear hm hA)
    go_upto_region 18 with (go_at_call 21; refine (heldF_same 1 xs.length f2 B3 _ (by decide) (by decide) (by omega) HF2.out).mono ?_; rintro e Y3 ⟨rfl, hb1⟩; replace H0 := Lib.hid (below_row hb1 H0.out); replace HF0 := Lib.hid (own_below HF0.out hb1 (Nat.le_refl _)); replace HF2 := Lib.hid (own_below HF2.out hb1 (Nat.le_refl _)); replace hb := hb.trans (hb1.mono hb.size); clear hb1)
    go_upto_region 22 with (fail)
    go_upto_region 23 with (first | (refine wpList_load_part rfl 28 _ rfl w.heap.size 0 5 rfl 28 (blindC n wd gp t sh) (0, 0) _ H0.out Try.underlying28 rfl info_blindL (blind_fits _ _ _ _ _) _ (blind_all _ _ _ _ _) ?_) | (go_at_call 12; refine (toBlind_any _ _ _ _ _ _).mono ?_; rintro e W9 ⟨rfl, hb1⟩; replace H0 := Lib.hid (below_row hb1 H0.out); replace HF0 := Lib.hid (own_below HF0.out hb1 (Nat.le_refl _)); replace HF2 := Lib.hid (own_below HF2.out hb1 (Nat.le_refl _)); replace hb := hb.trans (hb1.mono hb.size); clear hb1) | (go_at_call 35; refine (toInt64S_own _ zs hlen _ (ints_below HZ.out hb)).mono ?_; rintro e W4 ⟨⟨i4, rfl, hv⟩, hb1⟩; have HI4 := Lib.hid hv; clear hv; replace H0 := Lib.hid (below_row hb1 H0.out); replace HF0 := Lib.hid (own_below HF0.out hb1 (Nat.le_refl _)); replace HF2 := Lib.hid (own_below HF2.out hb1 (Nat.le_refl _)); replace hb := hb.trans (hb1.mono hb.size); clear hb1) | (go_at_call 36; refine (HI.out _ _ (own_ints HI4.out)).mono ?_; rintro e U4 ⟨⟨f4, rfl, hv⟩, hb1⟩; have HF4 := Lib.hid hv; clear hv; replace H0 := Lib.hid (below_row hb1 H0.out); replace HF0 := Lib.hid (own_below HF0.out hb1 (Nat.le_refl _)); replace HF2 := Lib.hid (own_below HF2.out hb1 (Nat.le_refl _)); replace hb := hb.trans (hb1.mono hb.size); clear hb1))
    clear HI HI4
    go_upto_region 26 with (go_at_call 17; refine (eqF_same xs HFI.out f4 f0 _ _ _ HF4.out HF0.out).mono ?_; rintro e X1 ⟨rfl, hb1⟩; replace H0 := Lib.hid (below_row hb1 H0.out); replace HF0 := Lib.hid (own_below HF0.out hb1 (Nat.le_refl _)); replace HF2 := Lib.hid (own_below HF2.out hb1 (Nat.le_refl _)); replace hb := hb.trans (hb1.mono hb.size); clear hb1)
    go_wp2_with (go_at_call 21; refine (heldF_same 1 xs.length f2 B3 _ (by decide) (by decide) (by omega) HF2.out).mono ?_; rintro e Y5 ⟨rfl, hb1⟩; replace hb := hb.trans (hb1.mono hb.size); clear hb1)
    go_ret
    exact ⟨rfl, hb⟩
  · have zl : (1048576 : Int) < ((zs.length : Nat) : Int) := by omega
    clear HS HI HZ
    go_wp2
    go_ret
    exact ⟨rfl, hb⟩

theorem lawPassAll_walk (n : Int) (wd gp : Nat) (t : Int) (sh : Nat) (bw : BlWf n wd gp t sh) (sv : Value) (zs : List Int) (_hwf : ∀ z ∈ zs, (Lit.int .i64 z).wf = true) (w : World) (hz : IntsAt w sv zs) :
    Calls Try.prog 8 #[.agg (blindC n wd gp t sh), sv] w fun e w' => e = .returned (.bool true) ∧ Below w.heap.size w w' := by
  by_cases hc : codeP (okBl n wd gp t sh) zs = 0
  · obtain ⟨hk, hlen, _⟩ := codeP_ok hc
    have OK := blok_of bw hk
    exact FnExactPassAll_core n wd gp t sh sv zs (pasL wd gp t sh zs) 0 (by rw [pasL_len]; omega) (pasL_fin wd gp t OK.2.2.2.2.2.2.2.2 zs) w hz (fun w u hu => sPA_yes n wd gp t sh bw u zs w hu hc) (fun w u hu => iPA_yes n wd gp t sh bw u zs w hu hc)
  · exact FnExactPassAll_core n wd gp t sh sv zs [] _ (by simp) (fun x hx => by cases hx) w hz (fun w u hu => sPA_no n wd gp t sh bw u zs w hu _ rfl hc) (fun w u hu => iPA_no n wd gp t sh bw u zs w hu _ rfl hc)

set_option maxRecDepth 100000 in
theorem FnExactPassAll_holds : Rows.FnExactPassAllSaid :=
  OpenClaim.holds_of_wide_leaving 8 Try.f8 rfl rfl rfl rfl rfl rfl rfl ⟨rfl, rfl, rfl, rfl, rfl⟩ rfl rfl rfl rfl rfl (by kernel_rfl) Try.func8 (by kernel_rfl)
    (of_decide_eq_true (by kernel_rfl)) (by unfold Func.isWrapper; first | (rw [if_pos (by decide +kernel)]; kernel_rfl) | (rw [if_neg (by decide +kernel)]; exact ⟨rfl, rfl⟩))
    (fun os started H enc _ => leaving_of_handed (law_lifted 8 Try.f8 Rows.fnExactPassAllSpec Rows.fnExactPassAllRow.domain os started H enc (by kernel_rfl) Try.func8 rfl rfl
      (by rw [Try.params8]; intro t ht; simp only [List.mem_cons, List.not_mem_nil, or_false] at ht; rcases ht with rfl | rfl <;> exact ⟨by kernel_rfl, of_decide_eq_true (by kernel_rfl)⟩)
      (fun ds hl => by
        match ds, hl with
        | [d0, d1], _ => rfl)
      (ChangeSpec.witness6 (enc := enc) (C := Try.checked) false ⟨#[], #[.agg #[.int .i8 0, .float .f32 0, .float .f32 0, .int .i16 0, .float .f32 0], .slice none 0 0], []⟩ 8 (by kernel_rfl) (by kernel_rfl) (by kernel_rfl) (by kernel_rfl))
      (fun W base args ds p hval hA => by
        rw [Try.params8] at hA hval
        obtain ⟨v0, vs0, d0, ds0, p0, q0, hargs, rfl, rfl, h0, r0⟩ := trodAll_cons hA
        obtain ⟨v1, vs1, d1, ds1, p1, q1, rfl, rfl, rfl, h1, r1⟩ := trodAll_cons r0
        obtain ⟨rfl, rfl, rfl⟩ := trodAll_nil r1
        obtain rfl : args = #[v0, v1] := by cases args; simp_all
        obtain ⟨n0, wd0, gp0, t0, sh0, bw0, rfl⟩ := open_blind (hval 0 28 v0 rfl rfl) h0
        obtain ⟨zs1, hz1, zw1⟩ := open_intS (hval 1 52 v1 rfl rfl) h1
        exact lawPassAll_walk n0 wd0 gp0 t0 sh0 bw0 v1 zs1 zw1 W hz1)))
#print axioms FnExactPassAll_holds

end Go.Proofs.Ytelgcggcmjdhjab
