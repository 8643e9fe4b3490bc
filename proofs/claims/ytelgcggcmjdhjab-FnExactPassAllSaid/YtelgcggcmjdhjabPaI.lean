/-
  What passes for several heights: the program.
-/
import Derived.Test.YtelgcggcmjdhjabPaA
namespace Go.Proofs.Ytelgcggcmjdhjab
open Go.ChangeShapes Go.WideShapes Go.ChangeAt Go.RowKit Go.Deep Go.Joins

attribute [local go_sem] run_store_f

set_option maxRecDepth 100000 in
set_option maxHeartbeats 1000000 in
theorem iPA_a (n : Int) (wd gp : Nat) (t : Int) (sh : Nat) (bw : BlWf n wd gp t sh) (sv : Value) (zs : List Int) (w : World) (hz : IntsAt w sv zs) (hk : okBl n wd gp t sh = false) :
    Calls Try.prog 36 #[.agg (blindC n wd gp t sh), sv] w (RetF [] 1 w) := by
  obtain ⟨T0, T1⟩ := blwf_t bw
  have HV := Lib.hid (fun w => ValidBlind_any n wd gp t sh T0 T1 w)
  rw [hk] at HV
  have HC := Lib.hid (fun W hz => containsH_any sv zs W hz)
  have HZ := Lib.hid hz
  obtain ⟨a, cap, rfl, hl1, hl2, _⟩ := hz
  unfold maxLen at hl2
  generalize hn : zs.length = n' at *
  clear hn hk bw T0 T1
  go_enter Try.func36, Try.ntmps36
  go_upto_region 1 with (fail)
  refine abs_world (fun W => Below w.heap.size w W ∧ W.heap[w.heap.size]? = some (.cells (blindC n wd gp t sh) 39 (0, 0))) ⟨(Below.refl _ _).alloc (Nat.le_refl _) _, heap_alloc_new _ _⟩ ?_
  rintro W ⟨hb, h0⟩
  have H0 := Lib.hid h0
  clear h0
  go_wp2_with (first | (refine wpList_load_part rfl 39 _ rfl w.heap.size 0 5 rfl 39 (blindC n wd gp t sh) (0, 0) _ H0.out Try.underlying39 rfl info_blind (blind_fits _ _ _ _ _) _ (blind_all _ _ _ _ _) ?_) | (go_at_call 57; refine (HV.out _).mono ?_; rintro e W1 ⟨rfl, hb1⟩; replace H0 := Lib.hid (below_row hb1 H0.out); replace hb := hb.trans (hb1.mono hb.size); clear hb1))
  go_ret2
  exact ⟨⟨_, rfl, own_none _ _⟩, hb⟩
set_option maxRecDepth 100000 in
set_option maxHeartbeats 1000000 in
theorem iPA_l (n : Int) (wd gp : Nat) (t : Int) (sh : Nat) (bw : BlWf n wd gp t sh) (sv : Value) (zs : List Int) (w : World) (hz : IntsAt w sv zs) (hk : okBl n wd gp t sh = true) (hl : 100 < zs.length) :
    Calls Try.prog 36 #[.agg (blindC n wd gp t sh), sv] w (RetF [] 3 w) := by
  obtain ⟨T0, T1⟩ := blwf_t bw
  have HV := Lib.hid (fun w => ValidBlind_any n wd gp t sh T0 T1 w)
  rw [hk] at HV
  have HC := Lib.hid (fun W hz => containsH_any sv zs W hz)
  have HZ := Lib.hid hz
  obtain ⟨a, cap, rfl, hl1, hl2, _⟩ := hz
  unfold maxLen at hl2
  generalize hn : zs.length = n' at *
  have z1 : (100 : Int) < (n' : Int) := by omega
  clear hl
  clear hn hk bw T0 T1
  go_enter Try.func36, Try.ntmps36
  go_upto_region 1 with (fail)
  refine abs_world (fun W => Below w.heap.size w W ∧ W.heap[w.heap.size]? = some (.cells (blindC n wd gp t sh) 39 (0, 0))) ⟨(Below.refl _ _).alloc (Nat.le_refl _) _, heap_alloc_new _ _⟩ ?_
  rintro W ⟨hb, h0⟩
  have H0 := Lib.hid h0
  clear h0
  go_wp2_with (first | (refine wpList_load_part rfl 39 _ rfl w.heap.size 0 5 rfl 39 (blindC n wd gp t sh) (0, 0) _ H0.out Try.underlying39 rfl info_blind (blind_fits _ _ _ _ _) _ (blind_all _ _ _ _ _) ?_) | (go_at_call 57; refine (HV.out _).mono ?_; rintro e W1 ⟨rfl, hb1⟩; replace H0 := Lib.hid (below_row hb1 H0.out); replace hb := hb.trans (hb1.mono hb.size); clear hb1))
  go_ret2
  exact ⟨⟨_, rfl, own_none _ _⟩, hb⟩
set_option maxRecDepth 100000 in
set_option maxHeartbeats 1000000 in
theorem iPA_h (n : Int) (wd gp : Nat) (t : Int) (sh : Nat) (bw : BlWf n wd gp t sh) (sv : Value) (zs : List Int) (w : World) (hz : IntsAt w sv zs) (hk : okBl n wd gp t sh = true) (hl : zs.length ≤ 100) (ha : zs.all okH = false) :
    Calls Try.prog 36 #[.agg (blindC n wd gp t sh), sv] w (RetF [] 2 w) := by
  obtain ⟨T0, T1⟩ := blwf_t bw
  have HV := Lib.hid (fun w => ValidBlind_any n wd gp t sh T0 T1 w)
  rw [hk] at HV
  have HC := Lib.hid (fun W hz => containsH_any sv zs W hz)
  have HZ := Lib.hid hz
  obtain ⟨a, cap, rfl, hl1, hl2, _⟩ := hz
  unfold maxLen at hl2
  generalize hn : zs.length = n' at *
  have z1 : (n' : Int) ≤ 100 := by omega
  rw [ha] at HC
  clear hl ha
  clear hn hk bw T0 T1
  go_enter Try.func36, Try.ntmps36
  go_upto_region 1 with (fail)
  refine abs_world (fun W => Below w.heap.size w W ∧ W.heap[w.heap.size]? = some (.cells (blindC n wd gp t sh) 39 (0, 0))) ⟨(Below.refl _ _).alloc (Nat.le_refl _) _, heap_alloc_new _ _⟩ ?_
  rintro W ⟨hb, h0⟩
  have H0 := Lib.hid h0
  clear h0
  go_wp2_with (first | (refine wpList_load_part rfl 39 _ rfl w.heap.size 0 5 rfl 39 (blindC n wd gp t sh) (0, 0) _ H0.out Try.underlying39 rfl info_blind (blind_fits _ _ _ _ _) _ (blind_all _ _ _ _ _) ?_) | (go_at_call 57; refine (HV.out _).mono ?_; rintro e W1 ⟨rfl, hb1⟩; replace H0 := Lib.hid (below_row hb1 H0.out); replace hb := hb.trans (hb1.mono hb.size); clear hb1) | (go_at_call 58; refine (HC.out _ (ints_below HZ.out hb)).mono ?_; rintro e w' ⟨rfl, rfl⟩))
  go_ret2
  exact ⟨⟨_, rfl, own_none _ _⟩, hb⟩
theorem iPA_no (n : Int) (wd gp : Nat) (t : Int) (sh : Nat) (bw : BlWf n wd gp t sh) (sv : Value) (zs : List Int) (w : World) (hz : IntsAt w sv zs) (c : Int) (hc : codeP (okBl n wd gp t sh) zs = c) (hne : c ≠ 0) : Calls Try.prog 36 #[.agg (blindC n wd gp t sh), sv] w (RetF [] c w) := by
  subst hc
  unfold codeP at hne ⊢
  cases hk : okBl n wd gp t sh with
  | false => rw [if_pos rfl]; exact iPA_a n wd gp t sh bw sv zs w hz hk
  | true =>
    rw [hk] at hne
    rw [if_neg (by decide)] at hne ⊢
    by_cases hl : 100 < zs.length
    · rw [if_pos hl]; exact iPA_l n wd gp t sh bw sv zs w hz hk hl
    · rw [if_neg hl] at hne ⊢
      cases ha : zs.all okH with
      | false => rw [if_pos rfl]; exact iPA_h n wd gp t sh bw sv zs w hz hk (by omega) ha
      | true => rw [ha] at hne; exact absurd rfl hne

set_option maxRecDepth 100000 in
set_option maxHeartbeats 4000000 in
theorem iPA_yes (n : Int) (wd gp : Nat) (t : Int) (sh : Nat) (bw : BlWf n wd gp t sh) (sv : Value) (zs : List Int) (w : World) (hz : IntsAt w sv zs) (hc : codeP (okBl n wd gp t sh) zs = 0) :
    Calls Try.prog 36 #[.agg (blindC n wd gp t sh), sv] w (RetF (pasL wd gp t sh zs) 0 w) := by
  obtain ⟨hk, hlen, ha⟩ := codeP_ok hc
  obtain ⟨T0, T1⟩ := blwf_t bw
  have OK := blok_of bw hk
  have HV := Lib.hid (fun w => ValidBlind_any n wd gp t sh T0 T1 w)
  rw [hk] at HV
  have HC := Lib.hid (fun W hz => containsH_any sv zs W hz)
  rw [ha] at HC
  have HPs := Lib.hid (fun w => passer_any n wd gp t sh OK w)
  have HCl := Lib.hid (fun h h0 h1 g1 g2 w c1 c2 => passes_call n wd gp t sh OK g1 g2 h h0 h1 w c1 c2)
  have HH := Lib.hid (fun x hx => inI_get (List.all_eq_true.1 ha x hx))
  have HZ := Lib.hid hz
  have HLL : Hid (∀ (k : Nat) (x : Int), zs[k]? = some x → (pasL wd gp t sh zs)[k]? = some (pasB wd gp t sh x)) := fun k x hx => by unfold pasL; rw [List.getElem?_map, hx]; rfl
  have HLN : Hid ((pasL wd gp t sh zs).length = zs.length) := by unfold pasL; exact List.length_map ..
  obtain ⟨a, cap, rfl, hl1, hl2, _⟩ := hz
  unfold maxLen at hl2
  generalize hn : zs.length = n' at *
  have HN := Lib.hid hn
  have z1 : (n' : Int) ≤ 100 := by omega
  have hmk := fun w => make_floats n' (by omega) w
  clear hn hk bw T0 T1 ha OK hc
  generalize pasL wd gp t sh zs = out at *
  go_enter Try.func36, Try.ntmps36
  go_upto_region 1 with (fail)
  refine abs_world (fun W => Below w.heap.size w W ∧ W.heap[w.heap.size]? = some (.cells (blindC n wd gp t sh) 39 (0, 0))) ⟨(Below.refl _ _).alloc (Nat.le_refl _) _, heap_alloc_new _ _⟩ ?_
  rintro W ⟨hb, h0⟩
  have H0 := Lib.hid h0
  clear h0
  go_upto_region 8 with (first | (refine wpList_load_part rfl 39 _ rfl w.heap.size 0 5 rfl 39 (blindC n wd gp t sh) (0, 0) _ H0.out Try.underlying39 rfl info_blind (blind_fits _ _ _ _ _) _ (blind_all _ _ _ _ _) ?_) | (go_at_call 57; refine (HV.out _).mono ?_; rintro e W1 ⟨rfl, hb1⟩; replace H0 := Lib.hid (below_row hb1 H0.out); replace hb := hb.trans (hb1.mono hb.size); clear hb1) | (go_at_call 58; refine (HC.out _ (ints_below HZ.out hb)).mono ?_; rintro e w' ⟨rfl, rfl⟩) | (go_at_call 55; refine (HPs.out _).mono ?_; rintro e W2 ⟨⟨v, rfl, g1, g2, rfl, c1, c2⟩, hb2⟩; replace hb := hb.trans (hb2.mono hb.size); have C1 := Lib.hid c1; have C2 := Lib.hid c2; clear c1 c2 hb2))
  clear H0 HV HC HPs
  have hl1' := row_lt C1.out
  have hl2' := row_lt C2.out
  have hws := hb.size
  go_wp2
  go_loopw [25] (fun i wr => ∃ k : Nat, k ≤ n' ∧ i = .int .i64 k ∧ Below w.heap.size w wr ∧ wr.heap[g1]? = some (.cells (blindC n wd gp t sh) 39 (0, 0)) ∧ wr.heap[g2]? = some (.cells #[.float .f32 (opnB wd gp t 1)] 22 (0, 0)) ∧ ∃ cur : Array Value, wr.heap[W2.heap.size]? = some (.cells cur 22 (0, 0)) ∧ cur.size = n' ∧ ∀ j x, j < k → out[j]? = some x → cur[j]? = some (.float .f32 x)) (fun i _ => n' - (intOf i).toNat)
  case atStart => exact ⟨0, Nat.zero_le _, rfl, hb.alloc hws _, below_row ((Below.refl _ _).alloc (Nat.le_refl _) _) C1.out, below_row ((Below.refl _ _).alloc (Nat.le_refl _) _) C2.out, _, heap_alloc_new _ _, size_madeCells _ _, fun j x hj => by omega⟩
  case round =>
    clear hmk C1 C2 hb
    obtain ⟨k, hk, rfl, hb, d1, d2, cur, hg, hs, hp⟩ := hrel
    have D1 := Lib.hid d1
    have D2 := Lib.hid d2
    have HP := Lib.hid hp
    have HG := Lib.hid hg
    clear d1 d2 hp hg
    by_cases hlt : k < n'
    · have hx : zs[k]? = some (zs[k]'(by rw [HN.out]; exact hlt)) := List.getElem?_eq_getElem _
      obtain ⟨g, o, rfl, hcl⟩ := int_at (ints_below HZ.out hb) hx
      obtain ⟨h0, h1⟩ := HH.out _ (List.mem_of_getElem? hx)
      have hxo := HLL.out k _ hx
      generalize (zs[k]'(by rw [HN.out]; exact hlt)) = x at *
      have HX := Lib.hid hxo
      have HK := Lib.hid (HCl.out x h0 h1 g1 g2 _ D1.out D2.out)
      have z3 : (k : Int) < (n' : Int) := by omega
      have z2 : (0 : Int) ≤ (k : Int) := by omega
      clear hx hxo h0 h1
      generalize pasB wd gp t sh x = p at *
      have hgl := row_lt HG.out
      generalize hgm : W2.heap.size = gm at *
      go_wp2_with (go_at_call 81; refine HK.out.mono ?_; rintro e W3 ⟨rfl, hb3⟩; have HG3 := Lib.hid (below_row hb3 HG.out); have q1 : W3.cell? ⟨gm, k, none⟩ = some (cur[k]'(by omega)) := (by rw [cell_of_row W3 _ _ _ _ _ HG3.out]; exact Array.getElem?_eq_getElem (by omega)); have q2 := frozen_of_row W3 gm k _ _ HG3.out)
      go_roundw
      case rel =>
        refine ⟨k + 1, by omega, by go_num, (hb.trans (hb3.mono hb.size)).setCell (p := ⟨gm, k, none⟩) hws _, ?_, ?_, cur.setIfInBounds k (.float .f32 p), heap_setCell_same _ _ _ _ _ _ HG3.out, by simpa using hs, fun j y hj hy => ?_⟩
        · rw [heap_setCell_other _ _ _ _ (by simp; omega)]; exact below_row hb3 D1.out
        · rw [heap_setCell_other _ _ _ _ (by simp; omega)]; exact below_row hb3 D2.out
        · rw [Array.getElem?_setIfInBounds]
          by_cases e : k = j
          · subst e
            rw [HX.out] at hy
            obtain rfl := Option.some.inj hy
            rw [if_pos rfl, if_pos (by omega)]
          · rw [if_neg e]; exact HP.out j y (by omega) hy
      case measure => simp [intOf]; omega
    · obtain rfl : n' = k := by omega
      have HR : Hid (Own wr w.heap.size 22 (Value.float .f32) (.slice (some ⟨W2.heap.size, 0, none⟩) n' n') out) := by
        have hln := HLN.out
        refine ⟨_, n', by rw [hln], by unfold maxLen; omega, by rw [hln]; exact Nat.le_refl _, .inr ⟨W2.heap.size, cur, rfl, hws, HG.out, fun j hj => ?_⟩⟩
        rw [List.getElem?_eq_getElem hj]
        exact HP.out j _ (by omega) (List.getElem?_eq_getElem hj)
      go_wp2
      go_ret2
      exact ⟨⟨_, rfl, HR.out⟩, hb⟩

end Go.Proofs.Ytelgcggcmjdhjab
