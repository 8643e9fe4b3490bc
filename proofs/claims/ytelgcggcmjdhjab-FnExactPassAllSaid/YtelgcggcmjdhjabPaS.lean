/-
  What passes for several heights: the model.
-/
import Derived.Test.YtelgcggcmjdhjabPaI
import Derived.OwnWalk
import Derived.Laws.AppendOwn
import Derived.Maps.AppendAt
namespace Go.Proofs.Ytelgcggcmjdhjab
open Go.ChangeShapes Go.WideShapes Go.ChangeAt Go.RowKit Go.Deep Go.Joins

attribute [local go_sem] run_store_f

theorem grown_of_below {w w' : World} (h : Below w.heap.size w w') (row : Option Nat) : w.grownBy w' row := ⟨h.os, h.tape, h.output, h.size, fun k hk _ => h.block k hk⟩
theorem not_rowW {W : World} {g : Nat} {cs : Array Value} {t e : TypeId} {fr : Nat × Nat} (h : W.heap[g]? = some (.cells cs t fr)) (hte : t ≠ e) {base size k : Nat} {v : Value} {xs : List Value} (hr : W.ownsRow base e size v k xs) : some g ≠ v.ownBlock := by
  rcases hr.2 with ⟨rfl, _⟩ | ⟨g', cap, cur, rfl, _, hgb, _⟩
  · simp [Value.ownBlock]
  · intro e'
    obtain rfl : g = g' := by simpa [Value.ownBlock] using e'
    rw [h] at hgb
    injection hgb with e1
    injection e1 with _ e2 _
    exact hte e2
theorem owns_below {W w1 : World} {base k : Nat} {e : TypeId} {v : Value} {xs : List Value} (h : W.ownsRow base e 1 v k xs) (hb : Below W.heap.size W w1) : w1.ownsRow base e 1 v k xs :=
  h.kept (grown_of_below hb none) (by cases v.ownBlock <;> simp)
theorem own_of_row {α : Type} {W : World} {base : Nat} {e : TypeId} {mk : α → Value} {v : Value} {xs : List α} (h : W.ownsRow base e 1 v xs.length (xs.map mk)) (_ : xs.length ≤ maxLen) : Own W base e mk v xs := by
  rcases h.2 with ⟨rfl, hz⟩ | ⟨g, cap, cur, rfl, hbg, hg, hnc, hcm, hsz, htk⟩
  · exact ⟨none, 0, by rw [hz], Nat.zero_le _, by omega, .inl ⟨rfl, List.eq_nil_of_length_eq_zero hz⟩⟩
  · refine ⟨_, cap, rfl, hcm, hnc, .inr ⟨g, cur, rfl, hbg, hg, fun k hk => ?_⟩⟩
    have h1 : (cur.toList.take (xs.length * 1))[k]? = cur[k]? := by
      rw [List.getElem?_take_of_lt (by omega), Array.getElem?_toList]
    rw [← h1, htk, List.getElem?_map]
theorem row_base {W : World} {base k : Nat} {e : TypeId} {v : Value} {xs : List Value} (h : W.ownsRow base e 1 v k xs) : ∀ j, v.ownBlock = some j → base ≤ j := fun j e => (h.lt j e).1
theorem kept_append2 {W w1 : World} {g base k : Nat} {cs : Array Value} {t e : TypeId} {fr : Nat × Nat} {v : Value} {xs : List Value} {tmp : Obj} (h : W.heap[g]? = some (.cells cs t fr)) (hte : t ≠ e) (hr : W.ownsRow base e 1 v k xs)
    (hg : (W.alloc tmp).grownBy w1 v.ownBlock) : w1.heap[g]? = some (.cells cs t fr) := by
  have h1 : (W.alloc tmp).heap[g]? = some (.cells cs t fr) := below_row ((Below.refl W.heap.size W).alloc (Nat.le_refl _) _) h
  exact (hg.block g (row_lt h1) (not_rowW h hte hr)).trans h1
theorem own_base0 {W : World} {base : Nat} {v : Value} (h : W.ownsRow base 22 1 v 0 []) : Own W base 22 (Value.float .f32) v [] := own_of_row (xs := ([] : List Nat)) h (by unfold maxLen; simp)
set_option maxRecDepth 100000 in
set_option maxHeartbeats 1000000 in
theorem sPA_a (n : Int) (wd gp : Nat) (t : Int) (sh : Nat) (bw : BlWf n wd gp t sh) (sv : Value) (zs : List Int) (w : World) (hz : IntsAt w sv zs) (hk : okBl n wd gp t sh = false) :
    Calls Try.prog 34 #[.agg (blindC n wd gp t sh), sv] w (RetF [] 1 w) := by
  obtain ⟨T0, T1⟩ := blwf_t bw
  obtain ⟨N0, N1⟩ := blwf_n bw
  have Hc : Hid (codeC (okBl n wd gp t sh) true = 1) := by rw [hk]; rfl
  obtain ⟨a, cap, rfl, hl1, hl2, _⟩ := hz
  unfold maxLen at hl2
  generalize hn : zs.length = n' at *
  clear hn hk bw
  go_enter Try.func34, Try.ntmps34
  go_upto_region 1 with (fail)
  refine abs_world (fun W => Below w.heap.size w W ∧ W.heap[w.heap.size]? = some (.cells (blindC n wd gp t sh) 39 (0, 0))) ⟨(Below.refl _ _).alloc (Nat.le_refl _) _, heap_alloc_new _ _⟩ ?_
  rintro W ⟨hb, h0⟩
  have H0 := Lib.hid h0
  clear h0
  go_wp2_with (go_at_call 47; refine (l02Asked_is n wd gp t sh T0 T1 N0 N1 w.heap.size _ _ true 1 Hc.out _ H0.out).mono ?_; rintro e w' ⟨rfl, rfl⟩)
  go_loopw [6, 7] (fun q i wr => q = .int .i64 1 ∧ i = .int .i64 0 ∧ W = wr) (fun _ _ _ => 0)
  case atStart => exact ⟨rfl, rfl, rfl⟩
  case round =>
    obtain ⟨rfl, rfl, rfl⟩ := hrel
    rcases Nat.eq_zero_or_pos n' with h0 | h0
    · subst h0
      go_wp2
      go_ret2
      exact ⟨⟨_, rfl, own_base0 (World.ownsRow_made _ _ _ hb.size (Nat.zero_le _) rfl)⟩, hb.alloc hb.size _⟩
    · have z9 : (0 : Int) < (n' : Int) := by omega
      go_wp2
      go_ret2
      exact ⟨⟨_, rfl, own_base0 (World.ownsRow_made _ _ _ hb.size (Nat.zero_le _) rfl)⟩, hb.alloc hb.size _⟩

set_option maxRecDepth 100000 in
set_option maxHeartbeats 1000000 in
theorem sPA_l (n : Int) (wd gp : Nat) (t : Int) (sh : Nat) (bw : BlWf n wd gp t sh) (sv : Value) (zs : List Int) (w : World) (hz : IntsAt w sv zs) (hk : okBl n wd gp t sh = true) (hl : 100 < zs.length) :
    Calls Try.prog 34 #[.agg (blindC n wd gp t sh), sv] w (RetF [] 3 w) := by
  obtain ⟨T0, T1⟩ := blwf_t bw
  obtain ⟨N0, N1⟩ := blwf_n bw
  have Hc : Hid (codeC (okBl n wd gp t sh) true = 0) := by rw [hk]; rfl
  obtain ⟨a, cap, rfl, hl1, hl2, _⟩ := hz
  unfold maxLen at hl2
  generalize hn : zs.length = n' at *
  have z1 : (100 : Int) < (n' : Int) := by omega
  clear hl
  clear hn hk bw
  go_enter Try.func34, Try.ntmps34
  go_upto_region 1 with (fail)
  refine abs_world (fun W => Below w.heap.size w W ∧ W.heap[w.heap.size]? = some (.cells (blindC n wd gp t sh) 39 (0, 0))) ⟨(Below.refl _ _).alloc (Nat.le_refl _) _, heap_alloc_new _ _⟩ ?_
  rintro W ⟨hb, h0⟩
  have H0 := Lib.hid h0
  clear h0
  go_wp2_with (go_at_call 47; refine (l02Asked_is n wd gp t sh T0 T1 N0 N1 w.heap.size _ _ true 0 Hc.out _ H0.out).mono ?_; rintro e w' ⟨rfl, rfl⟩)
  go_loopw [6, 7] (fun q i wr => q = .int .i64 3 ∧ i = .int .i64 0 ∧ W = wr) (fun _ _ _ => 0)
  case atStart => exact ⟨rfl, rfl, rfl⟩
  case round =>
    obtain ⟨rfl, rfl, rfl⟩ := hrel
    rcases Nat.eq_zero_or_pos n' with h0 | h0
    · subst h0
      go_wp2
      go_ret2
      exact ⟨⟨_, rfl, own_base0 (World.ownsRow_made _ _ _ hb.size (Nat.zero_le _) rfl)⟩, hb.alloc hb.size _⟩
    · have z9 : (0 : Int) < (n' : Int) := by omega
      go_wp2
      go_ret2
      exact ⟨⟨_, rfl, own_base0 (World.ownsRow_made _ _ _ hb.size (Nat.zero_le _) rfl)⟩, hb.alloc hb.size _⟩

set_option maxRecDepth 100000 in
set_option maxHeartbeats 4000000 in
theorem sPA_h (n : Int) (wd gp : Nat) (t : Int) (sh : Nat) (bw : BlWf n wd gp t sh) (sv : Value) (zs : List Int) (w : World) (hz : IntsAt w sv zs) (hk : okBl n wd gp t sh = true) (hl : zs.length ≤ 100) (ha : zs.all okH = false) :
    Calls Try.prog 34 #[.agg (blindC n wd gp t sh), sv] w (RetF [] 2 w) := by
  obtain ⟨T0, T1⟩ := blwf_t bw
  obtain ⟨N0, N1⟩ := blwf_n bw
  have Hc : Hid (codeC (okBl n wd gp t sh) true = 0) := by rw [hk]; rfl
  have HZ := Lib.hid hz
  have HAll := Lib.hid ha
  obtain ⟨a, cap, rfl, hl1, hl2, _⟩ := hz
  unfold maxLen at hl2
  generalize hn : zs.length = n' at *
  have HN := Lib.hid hn
  have z1 : (n' : Int) ≤ 100 := by omega
  clear hn hk bw hl ha
  go_enter Try.func34, Try.ntmps34
  go_upto_region 1 with (fail)
  refine abs_world (fun W => Below w.heap.size w W ∧ W.heap[w.heap.size]? = some (.cells (blindC n wd gp t sh) 39 (0, 0))) ⟨(Below.refl _ _).alloc (Nat.le_refl _) _, heap_alloc_new _ _⟩ ?_
  rintro W ⟨hb, h0⟩
  have H0 := Lib.hid h0
  clear h0
  go_wp2_with (go_at_call 47; refine (l02Asked_is n wd gp t sh T0 T1 N0 N1 w.heap.size _ _ true 0 Hc.out _ H0.out).mono ?_; rintro e w' ⟨rfl, rfl⟩)
  go_loopw [6, 7] (fun q i wr => ∃ k : Nat, k ≤ n' ∧ i = .int .i64 k ∧ W = wr ∧ ((q = .int .i64 0 ∧ (zs.take k).all okH = true) ∨ q = .int .i64 2)) (fun _ i _ => n' - (intOf i).toNat)
  case atStart => exact ⟨0, Nat.zero_le _, rfl, rfl, .inl ⟨rfl, rfl⟩⟩
  case round =>
    obtain ⟨k, hk, rfl, rfl, ⟨rfl, hall⟩ | rfl⟩ := hrel
    · have HA := Lib.hid hall
      clear hall
      by_cases hlt : k < n'
      · have hx : zs[k]? = some (zs[k]'(by rw [HN.out]; exact hlt)) := List.getElem?_eq_getElem _
        obtain ⟨g, o, rfl, hc⟩ := int_at (ints_below HZ.out hb) hx
        have HT : Hid (zs.take (k + 1) = zs.take k ++ [zs[k]'(by rw [HN.out]; exact hlt)]) := Lib.hid (by rw [List.take_succ_eq_append_getElem])
        have hmem := List.mem_of_getElem? hx
        generalize (zs[k]'(by rw [HN.out]; exact hlt)) = x at *
        have HD := Lib.hid hx
        have z3 : (k : Int) < (n' : Int) := by omega
        have z2 : (0 : Int) ≤ (k : Int) := by omega
        clear hx
        clear hmem
        cases hf : okH x with
        | true =>
          have HFx : Hid (inI 1 64 x = true) := Lib.hid hf
          clear hf
          go_wp2_with (go_at_call 48; refine (l02Up_is x true HFx.out _).mono ?_; rintro e w' ⟨rfl, rfl⟩)
          go_roundw
          case rel => exact ⟨k + 1, by omega, by go_num, by trivial, .inl ⟨by trivial, by rw [HT.out, List.all_append, HA.out]; simp [okH, HFx.out]⟩⟩
          case measure => simp [intOf]; omega
        | false =>
          have HFx : Hid (inI 1 64 x = false) := Lib.hid hf
          clear hf
          go_wp2_with (go_at_call 48; refine (l02Up_is x false HFx.out _).mono ?_; rintro e w' ⟨rfl, rfl⟩)
          go_roundw
          case rel => exact ⟨k + 1, by omega, by go_num, by trivial, .inr (by trivial)⟩
          case measure => simp [intOf]; omega
      · exfalso
        have hall := HA.out
        rw [List.take_of_length_le (by rw [HN.out]; omega)] at hall
        rw [HAll.out] at hall
        cases hall
    · by_cases hlt : k < n'
      · have z3 : (k : Int) < (n' : Int) := by omega
        go_wp2
        go_ret2
        exact ⟨⟨_, rfl, own_base0 (World.ownsRow_made _ _ _ hb.size (Nat.zero_le _) rfl)⟩, hb.alloc hb.size _⟩
      · have z3 : ¬ (k : Int) < (n' : Int) := by omega
        go_wp2
        go_ret2
        exact ⟨⟨_, rfl, own_base0 (World.ownsRow_made _ _ _ hb.size (Nat.zero_le _) rfl)⟩, hb.alloc hb.size _⟩

theorem sPA_no (n : Int) (wd gp : Nat) (t : Int) (sh : Nat) (bw : BlWf n wd gp t sh) (sv : Value) (zs : List Int) (w : World) (hz : IntsAt w sv zs) (c : Int) (hc : codeP (okBl n wd gp t sh) zs = c) (hne : c ≠ 0) : Calls Try.prog 34 #[.agg (blindC n wd gp t sh), sv] w (RetF [] c w) := by
  subst hc
  unfold codeP at hne ⊢
  cases hk : okBl n wd gp t sh with
  | false => rw [if_pos rfl]; exact sPA_a n wd gp t sh bw sv zs w hz hk
  | true =>
    rw [hk] at hne
    rw [if_neg (by decide)] at hne ⊢
    by_cases hl : 100 < zs.length
    · rw [if_pos hl]; exact sPA_l n wd gp t sh bw sv zs w hz hk hl
    · rw [if_neg hl] at hne ⊢
      cases ha : zs.all okH with
      | false => rw [if_pos rfl]; exact sPA_h n wd gp t sh bw sv zs w hz hk (by omega) ha
      | true => rw [ha] at hne; exact absurd rfl hne

set_option maxRecDepth 100000 in
set_option maxHeartbeats 8000000 in
theorem sPA_yes (n : Int) (wd gp : Nat) (t : Int) (sh : Nat) (bw : BlWf n wd gp t sh) (sv : Value) (zs : List Int) (w : World) (hz : IntsAt w sv zs) (hc : codeP (okBl n wd gp t sh) zs = 0) :
    Calls Try.prog 34 #[.agg (blindC n wd gp t sh), sv] w (RetF (pasL wd gp t sh zs) 0 w) := by
  obtain ⟨i0, hin, hz0, hz1, hz2⟩ := info_parts info_f32
  obtain ⟨hk, hlen, ha⟩ := codeP_ok hc
  obtain ⟨T0, T1⟩ := blwf_t bw
  obtain ⟨N0, N1⟩ := blwf_n bw
  have OK := blok_of bw hk
  have Hc : Hid (codeC (okBl n wd gp t sh) true = 0) := by rw [hk]; rfl
  have HO := Lib.hid (fun h h0 h1 W hg => l02Pass_any n wd gp t sh OK h h0 h1 w.heap.size 39 (0, 0) W hg)
  have HH := Lib.hid (fun x hx => List.all_eq_true.1 ha x hx)
  have HZ := Lib.hid hz
  have HLL : Hid (∀ (k : Nat) (x : Int), zs[k]? = some x → (pasL wd gp t sh zs).take (k + 1) = (pasL wd gp t sh zs).take k ++ [pasB wd gp t sh x]) := fun k x hx => by
    have e : (pasL wd gp t sh zs)[k]? = some (pasB wd gp t sh x) := by unfold pasL; rw [List.getElem?_map, hx]; rfl
    have hk := (List.getElem?_eq_some_iff.1 e)
    rw [List.take_succ_eq_append_getElem hk.1, hk.2]
  have HLN : Hid ((pasL wd gp t sh zs).length = zs.length) := by unfold pasL; exact List.length_map ..
  obtain ⟨a, cap, rfl, hl1, hl2, _⟩ := hz
  unfold maxLen at hl2
  generalize hn : zs.length = n' at *
  have HN := Lib.hid hn
  have z1 : (n' : Int) ≤ 100 := by omega
  clear hn hk bw ha OK hc
  generalize pasL wd gp t sh zs = out at *
  go_enter Try.func34, Try.ntmps34
  go_upto_region 1 with (fail)
  refine abs_world (fun W => Below w.heap.size w W ∧ W.heap[w.heap.size]? = some (.cells (blindC n wd gp t sh) 39 (0, 0))) ⟨(Below.refl _ _).alloc (Nat.le_refl _) _, heap_alloc_new _ _⟩ ?_
  rintro W ⟨hb, h0⟩
  have H0 := Lib.hid h0
  clear h0
  go_wp2_with (go_at_call 47; refine (l02Asked_is n wd gp t sh T0 T1 N0 N1 w.heap.size _ _ true 0 Hc.out _ H0.out).mono ?_; rintro e w' ⟨rfl, rfl⟩)
  go_loopw [6, 7] (fun q i wr => ∃ k : Nat, k ≤ n' ∧ i = .int .i64 k ∧ W = wr ∧ q = .int .i64 0) (fun _ i _ => n' - (intOf i).toNat)
  case atStart => exact ⟨0, Nat.zero_le _, rfl, rfl, rfl⟩
  case round =>
    obtain ⟨k, hk, rfl, rfl, rfl⟩ := hrel
    by_cases hlt : k < n'
    · have hx : zs[k]? = some (zs[k]'(by rw [HN.out]; exact hlt)) := List.getElem?_eq_getElem _
      obtain ⟨g, o, rfl, hc⟩ := int_at (ints_below HZ.out hb) hx
      have HT : Hid (zs.take (k + 1) = zs.take k ++ [zs[k]'(by rw [HN.out]; exact hlt)]) := Lib.hid (by rw [List.take_succ_eq_append_getElem])
      have hmem := List.mem_of_getElem? hx
      generalize (zs[k]'(by rw [HN.out]; exact hlt)) = x at *
      have HD := Lib.hid hx
      have z3 : (k : Int) < (n' : Int) := by omega
      have z2 : (0 : Int) ≤ (k : Int) := by omega
      clear hx
      have HFx : Hid (inI 1 64 x = true) := Lib.hid (HH.out x hmem)
      clear hmem
      go_wp2_with (go_at_call 48; refine (l02Up_is x true HFx.out _).mono ?_; rintro e w' ⟨rfl, rfl⟩)
      go_roundw
      case rel => exact ⟨k + 1, by omega, by go_num, by trivial, by trivial⟩
      case measure => simp [intOf]; omega
    · obtain rfl : n' = k := by omega
      clear hlt hk Hc
      go_wp2
      have hrow0 : (W.alloc (.cells #[] 22)).ownsRow w.heap.size 22 1 (.slice (some ⟨W.heap.size, 0, none⟩) 0 0) 0 [] := World.ownsRow_made _ _ _ hb.size (Nat.zero_le _) rfl
      go_loopw [8, 9] (fun o i wr => ∃ (vo : Value) (k : Nat), vo = o ∧ k ≤ n' ∧ i = .int .i64 k ∧ wr.ownsRow w.heap.size 22 1 o k ((out.take k).map (Value.float .f32)) ∧ Below w.heap.size w wr ∧ wr.heap[w.heap.size]? = some (.cells (blindC n wd gp t sh) 39 (0, 0))) (fun _ i _ => n' - (intOf i).toNat)
      case atStart => exact ⟨_, 0, rfl, Nat.zero_le _, rfl, hrow0, hb.alloc hb.size _, below_row ((Below.refl _ _).alloc (Nat.le_refl _) _) H0.out⟩
      case round =>
        clear hrow0 hb H0
        obtain ⟨vo, k, rfl, hk, rfl, hrow, hb, d0⟩ := hrel
        have D0 := Lib.hid d0
        clear d0
        by_cases hlt : k < n'
        · have hx : zs[k]? = some (zs[k]'(by rw [HN.out]; exact hlt)) := List.getElem?_eq_getElem _
          obtain ⟨g, o, rfl, hc⟩ := int_at (ints_below HZ.out hb) hx
          have HT : Hid (zs.take (k + 1) = zs.take k ++ [zs[k]'(by rw [HN.out]; exact hlt)]) := Lib.hid (by rw [List.take_succ_eq_append_getElem])
          have hmem := List.mem_of_getElem? hx
          generalize (zs[k]'(by rw [HN.out]; exact hlt)) = x at *
          have HD := Lib.hid hx
          have z3 : (k : Int) < (n' : Int) := by omega
          have z2 : (0 : Int) ≤ (k : Int) := by omega
          clear hx
          obtain ⟨h0, h1⟩ := inI_get (HH.out x hmem)
          have HX := Lib.hid (HO.out x h0 h1 _ D0.out)
          have HL := Lib.hid (HLL.out k x HD.out)
          clear hmem h0 h1
          generalize pasB wd gp t sh x = p at *
          go_wp2_with (first | (go_at_call 49; refine HX.out.mono ?_; rintro e W3 ⟨rfl, hb3⟩; have hrow3 := owns_below hrow hb3; have hD3 := Lib.hid (below_row hb3 D0.out); have hbw3 := hb.trans (hb3.mono hb.size); have hsz3 := hbw3.size) | (at_builtin; refine wpList_append_own _ rfl _ _ 34 rfl w.heap.size 22 i0 (.float .f32 0) 1 4 Try.underlying34 hin hz0 hz1 hz2 rfl (by decide) _ _ _ rfl (hrow3.alloc _) ⟨W3.heap.size, 0, none⟩ 1 1 [.float .f32 p] rfl rfl (cell_one_new _ _ _) (by simp [Value.oneCell']) (by unfold maxLen; omega) (by omega) (by simp; omega) ?_; intro v' w1 hown' hgrow _))
          go_roundw
          case rel => exact ⟨_, k + 1, rfl, by omega, by go_num, by rw [HL.out]; simpa using hown', (hbw3.alloc (by omega) _).grown hgrow (by simp; omega) (row_base hrow3), kept_append2 hD3.out (by decide) hrow3 hgrow⟩
          case measure => simp [intOf]; omega
        · obtain rfl : n' = k := by omega
          have hln := HLN.out
          have HR2 : Hid (Own wr w.heap.size 22 (Value.float .f32) vo out) := by
            rw [List.take_of_length_le (by omega), ← hln] at hrow
            exact own_of_row hrow (by unfold maxLen; omega)
          clear hrow
          go_wp2
          go_ret2
          exact ⟨⟨_, rfl, HR2.out⟩, hb⟩

end Go.Proofs.Ytelgcggcmjdhjab
