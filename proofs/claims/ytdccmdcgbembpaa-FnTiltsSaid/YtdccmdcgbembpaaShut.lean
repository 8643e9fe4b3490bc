/-
  The tilts that shut a blind: the program's walk and the model's.
-/
import Derived.Test.YtdccmdcgbembpaaWhere
import Derived.Test.YtdccmdcgbembpaaListLaw
namespace Go.Proofs.Ytdccmdcgbembpaa
open Go.RowKit

/-- Whether nothing is open with a tilt. -/
def shutP (wd gp : Nat) (h : Int) (x : Int) : Bool := FloatKind.f32.format.order (opnB wd gp x h) 0 == some .eq

theorem blok_tilt (n : Int) (wd gp : Nat) (t : Int) (sh : Nat) {x : Int} (ok : BlOk n wd gp t sh) (x0 : -64 ≤ x) (x1 : x ≤ 64) : BlOk n wd gp x sh :=
  ⟨ok.1, ok.2.1, ok.2.2.1, ok.2.2.2.1, ok.2.2.2.2.1, ok.2.2.2.2.2.1, x0, x1, ok.2.2.2.2.2.2.2.2⟩

set_option maxRecDepth 100000 in
set_option maxHeartbeats 1000000 in
theorem shut_call (n : Int) (wd gp : Nat) (t : Int) (sh : Nat) (ok : BlOk n wd gp t sh) (h : Int) (h0 : 1 ≤ h) (h1 : h ≤ 64) (x : Int) (x0 : -64 ≤ x) (x1 : x ≤ 64) (g2 : Nat) (w : World) (c2 : w.heap[g2]? = some (.cells #[.int .i64 h] 2 (0, 0))) :
    Calls Try.prog 39 #[.agg (blindC n wd gp x sh), .pointer (some ⟨g2, 0, none⟩)] w fun e w' => e = .returned (.bool (shutP wd gp h x)) ∧ Below w.heap.size w w' := by
  have HO := Lib.hid (fun w => openAt_any n wd gp x sh (blok_tilt _ _ _ _ _ ok x0 x1) h h0 h1 w)
  have H2 := Lib.hid c2
  have hl := row_lt c2
  clear ok h0 h1 c2
  unfold shutP
  go_enter Try.func39, Try.ntmps39
  go_upto_region 1 with (fail)
  refine abs_world (fun W => Below w.heap.size w W ∧ W.heap[w.heap.size]? = some (.cells (blindC n wd gp x sh) 28 (0, 0)) ∧ W.heap[g2]? = some (.cells #[.int .i64 h] 2 (0, 0))) ⟨(Below.refl _ _).alloc (Nat.le_refl _) _, heap_alloc_new _ _, below_row ((Below.refl w.heap.size w).alloc (Nat.le_refl _) _) H2.out⟩ ?_
  clear H2
  rintro W ⟨hb, d0, d2⟩
  have H0 := Lib.hid d0
  have k2 : W.cell? ⟨g2, 0, none⟩ = some (.int .i64 h) := by rw [cell_of_row W _ _ _ _ _ d2]; rfl
  clear d0 d2
  go_wp2_with (first | (refine wpList_load_part rfl 28 _ rfl w.heap.size 0 5 rfl 28 (blindC n wd gp x sh) (0, 0) _ H0.out Try.underlying28 rfl info_blind (blind_fits _ _ _ _ _) _ (blind_all _ _ _ _ _) ?_) | (go_at_call 40; refine (HO.out _).mono ?_; rintro e W1 ⟨rfl, hb1⟩; replace hb := hb.trans (hb1.mono hb.size); clear hb1))
  go_ret
  exact ⟨rfl, hb⟩

theorem own_base {α : Type} {w : World} {base B : Nat} {E : TypeId} {mk : α → Value} {v : Value} {xs : List α} (h : Own w base E mk v xs) (hB : B ≤ base) : Own w B E mk v xs := own_below h (Below.refl _ _) hB

theorem own_nil {w : World} {base : Nat} : Own w base 2 (Value.int .i64) (.slice none 0 0) [] := ⟨none, 0, rfl, Nat.zero_le _, Nat.le_refl _, .inl ⟨rfl, rfl⟩⟩

set_option maxRecDepth 100000 in
set_option maxHeartbeats 1000000 in
theorem implShutTilts_yes (n : Int) (wd gp : Nat) (t : Int) (sh : Nat) (bw : BlWf n wd gp t sh) (h : Int) (hk : okBl n wd gp t sh = true) (hi : inI 1 64 h = true) (w : World) :
    Calls Try.prog 10 #[.agg (blindC n wd gp t sh), .int .i64 h] w (RetList (wantT (shutP wd gp h) (tls 129)) 0 w) := by
  obtain ⟨T0, T1⟩ := blwf_t bw
  obtain ⟨h0, h1⟩ := inI_get hi
  have OK := blok_of bw hk
  have HW := Lib.hid (fun (g2 : Nat) (W : World) (c2 : W.heap[g2]? = some (.cells #[.int .i64 h] 2 (0, 0))) => tiltsWhere_any n wd gp t sh 39 (enters_of Try.func39 (by kernel_rfl) rfl) #[.pointer (some ⟨g2, 0, none⟩)] (shutP wd gp h) (fun V => V.heap[g2]? = some (.cells #[.int .i64 h] 2 (0, 0))) W (fun V hb => below_row hb c2) (fun x V x0 x1 c => shut_call n wd gp t sh OK h h0 h1 x x0 x1 g2 V c))
  have Hc : Hid (codeC (okBl n wd gp t sh) true = 0) := by rw [hk]; rfl
  have Hi := Lib.hid hi
  clear OK h0 h1 hk hi bw
  go_enter Try.func10, Try.ntmps10
  go_upto_region 1 with (fail)
  refine abs_world (fun W => W.heap[w.heap.size]? = some (.cells (blindC n wd gp t sh) 28 (0, 0)) ∧ W.heap[w.heap.size + 1]? = some (.cells #[.int .i64 h] 2 (0, 0)) ∧ Below w.heap.size w W) ⟨heap_alloc2_old _ _ _, heap_alloc2_new _ _ _, ((Below.refl _ _).alloc (Nat.le_refl _) _).alloc (by simp) _⟩ ?_
  rintro W ⟨d1, d2, hb⟩
  generalize w.heap.size + 1 = g2 at *
  refine wp_region_held_drew (S := (fun W => W.heap[w.heap.size]? = some (.cells (blindC n wd gp t sh) 28 (0, 0)) ∧ W.heap[g2]? = some (.cells #[.int .i64 h] 2 (0, 0)) ∧ Below w.heap.size w W)) (by kernel_rfl) ⟨d1, d2, hb.drew⟩ (fun hHeld => ?_)
  refine take_op (i := 0) (d := 7) (v := .agg (blindC n wd gp t sh)) rfl rfl (by kernel_rfl) (by kernel_rfl) (by kernel_rfl) (fun _ _ _ h => h) (yields_row (by rfl) 28 (.tmp 2) (by rfl) w.heap.size 0 5 (by rfl) 28 (blindC n wd gp t sh) (0, 0) _ (fun _ h => h.1) Try.underlying28 rfl info_blind (blind_fits _ _ _ _ _) (blindC n wd gp t sh) (blind_all _ _ _ _ _)) hHeld ?_
  simp only [List.setIfInBounds_toArray, List.set_cons_zero, List.set_cons_succ]
  refine take_op (i := 1) (d := 8) (v := ?_) rfl rfl (by kernel_rfl) (by kernel_rfl) (by kernel_rfl) (fun _ _ _ h => h) (Or.inl ⟨by rfl, ?hy1u1⟩) hHeld ?rest1u1
  case hy1u1 =>
    intro w' hS'
    obtain ⟨s1, s2, s3⟩ := hS'
    have q2 : w'.cell? ⟨g2, 0, none⟩ = some (.int .i64 h) := by rw [cell_of_row w' _ _ _ _ _ s2]; rfl
    clear s1 s2 s3
    go_simp
    try with_reducible rfl
  simp only [List.setIfInBounds_toArray, List.set_cons_zero, List.set_cons_succ]
  refine wpAnyH_ready (rs := [2]) (by kernel_rfl) (by simp) ?_
  refine AllReadyH.cons rfl (fun K hK => ?_) AllReadyH.nil
  go_simp
  refine (isHeight_is h true Hi.out _).mono ?_
  rintro e w' ⟨rfl, rfl⟩
  refine hK.out _ _ (hHeld) (fun hHeld2 => ?_)
  clear hK K
  replace hHeld := hHeld2
  clear hHeld2
  refine wpAnyH_ready (rs := [3]) (by kernel_rfl) (by simp) ?_
  refine AllReadyH.cons rfl (fun K hK => ?_) AllReadyH.nil
  go_simp
  refine (checkBlind_is n wd gp t sh T0 T1 true 0 Hc.out _).mono ?_
  rintro e W1 ⟨rfl, hb1⟩
  refine hK.out _ _ (⟨below_row hb1 hHeld.1, below_row hb1 hHeld.2.1, hHeld.2.2.trans (hb1.mono hHeld.2.2.size)⟩) (fun hHeld2 => ?_)
  clear hK K
  replace hHeld := hHeld2
  clear hHeld2
  refine take_op (i := 4) (d := 6) (v := ?_) rfl rfl (by kernel_rfl) (by kernel_rfl) (by kernel_rfl) (fun _ _ _ h => h) (Or.inl ⟨by rfl, ?hy4u2⟩) hHeld ?rest4u2
  case hy4u2 =>
    intro w' hS'
    go_simp
    try with_reducible rfl
  simp only [List.setIfInBounds_toArray, List.set_cons_zero, List.set_cons_succ]
  refine wpAnyH_done (by kernel_rfl) ?_ _
  obtain ⟨c1, c2, hbx⟩ := hHeld
  have H0 := Lib.hid c1
  have C2 := Lib.hid c2
  clear c1 c2 d1 d2 hb
  go_wp2_with (first | (refine wpList_load_part rfl 28 _ rfl w.heap.size 0 5 rfl 28 (blindC n wd gp t sh) (0, 0) _ H0.out Try.underlying28 rfl info_blind (blind_fits _ _ _ _ _) _ (blind_all _ _ _ _ _) ?_) | (go_at_call 38; refine (HW.out g2 _ C2.out).mono ?_; rintro e W3 ⟨⟨v, rfl, hv⟩, hb3⟩))
  go_ret2
  exact ⟨⟨_, rfl, own_base hv hbx.size⟩, hbx.trans (hb3.mono hbx.size)⟩

set_option maxRecDepth 100000 in
set_option maxHeartbeats 1000000 in
theorem implShutTilts_no (n : Int) (wd gp : Nat) (t : Int) (sh : Nat) (bw : BlWf n wd gp t sh) (h : Int) (hk : ¬ (okBl n wd gp t sh = true ∧ inI 1 64 h = true)) (w : World) :
    Calls Try.prog 10 #[.agg (blindC n wd gp t sh), .int .i64 h] w (RetList [] (codeC (okBl n wd gp t sh) (inI 1 64 h)) w) := by
  obtain ⟨T0, T1⟩ := blwf_t bw
  have hne := codeC_ne hk
  generalize hf : inI 1 64 h = fine at *
  generalize hc : codeC (okBl n wd gp t sh) fine = c at *
  have Hc := Lib.hid hc
  have Hi := Lib.hid hf
  have hne' : (c != 0) = true := bne_iff_ne.2 hne
  clear hk hc hf hne bw
  go_enter Try.func10, Try.ntmps10
  go_upto_region 1 with (fail)
  refine abs_world (fun W => W.heap[w.heap.size]? = some (.cells (blindC n wd gp t sh) 28 (0, 0)) ∧ W.heap[w.heap.size + 1]? = some (.cells #[.int .i64 h] 2 (0, 0)) ∧ Below w.heap.size w W) ⟨heap_alloc2_old _ _ _, heap_alloc2_new _ _ _, ((Below.refl _ _).alloc (Nat.le_refl _) _).alloc (by simp) _⟩ ?_
  rintro W ⟨d1, d2, hb⟩
  generalize w.heap.size + 1 = g2 at *
  refine wp_region_held_drew (S := (fun W => W.heap[w.heap.size]? = some (.cells (blindC n wd gp t sh) 28 (0, 0)) ∧ W.heap[g2]? = some (.cells #[.int .i64 h] 2 (0, 0)) ∧ Below w.heap.size w W)) (by kernel_rfl) ⟨d1, d2, hb.drew⟩ (fun hHeld => ?_)
  refine take_op (i := 0) (d := 7) (v := .agg (blindC n wd gp t sh)) rfl rfl (by kernel_rfl) (by kernel_rfl) (by kernel_rfl) (fun _ _ _ h => h) (yields_row (by rfl) 28 (.tmp 2) (by rfl) w.heap.size 0 5 (by rfl) 28 (blindC n wd gp t sh) (0, 0) _ (fun _ h => h.1) Try.underlying28 rfl info_blind (blind_fits _ _ _ _ _) (blindC n wd gp t sh) (blind_all _ _ _ _ _)) hHeld ?_
  simp only [List.setIfInBounds_toArray, List.set_cons_zero, List.set_cons_succ]
  refine take_op (i := 1) (d := 8) (v := ?_) rfl rfl (by kernel_rfl) (by kernel_rfl) (by kernel_rfl) (fun _ _ _ h => h) (Or.inl ⟨by rfl, ?hy1u3⟩) hHeld ?rest1u3
  case hy1u3 =>
    intro w' hS'
    obtain ⟨s1, s2, s3⟩ := hS'
    have q2 : w'.cell? ⟨g2, 0, none⟩ = some (.int .i64 h) := by rw [cell_of_row w' _ _ _ _ _ s2]; rfl
    clear s1 s2 s3
    go_simp
    try with_reducible rfl
  simp only [List.setIfInBounds_toArray, List.set_cons_zero, List.set_cons_succ]
  refine wpAnyH_ready (rs := [2]) (by kernel_rfl) (by simp) ?_
  refine AllReadyH.cons rfl (fun K hK => ?_) AllReadyH.nil
  go_simp
  refine (isHeight_is h fine Hi.out _).mono ?_
  rintro e w' ⟨rfl, rfl⟩
  refine hK.out _ _ (hHeld) (fun hHeld2 => ?_)
  clear hK K
  replace hHeld := hHeld2
  clear hHeld2
  refine wpAnyH_ready (rs := [3]) (by kernel_rfl) (by simp) ?_
  refine AllReadyH.cons rfl (fun K hK => ?_) AllReadyH.nil
  go_simp
  refine (checkBlind_is n wd gp t sh T0 T1 fine c Hc.out _).mono ?_
  rintro e W1 ⟨rfl, hb1⟩
  refine hK.out _ _ (⟨below_row hb1 hHeld.1, below_row hb1 hHeld.2.1, hHeld.2.2.trans (hb1.mono hHeld.2.2.size)⟩) (fun hHeld2 => ?_)
  clear hK K
  replace hHeld := hHeld2
  clear hHeld2
  refine take_op (i := 4) (d := 6) (v := ?_) rfl rfl (by kernel_rfl) (by kernel_rfl) (by kernel_rfl) (fun _ _ _ h => h) (Or.inl ⟨by rfl, ?hy4u4⟩) hHeld ?rest4u4
  case hy4u4 =>
    intro w' hS'
    go_simp
    try with_reducible rfl
  simp only [List.setIfInBounds_toArray, List.set_cons_zero, List.set_cons_succ]
  refine wpAnyH_done (by kernel_rfl) ?_ _
  have hbx := hHeld.2.2
  clear hHeld d1 d2 hb
  go_wp2
  go_ret2
  exact ⟨⟨_, rfl, own_nil⟩, hbx⟩

theorem row_base {W : World} {base k : Nat} {e : TypeId} {v : Value} {xs : List Value} (h : W.ownsRow base e 1 v k xs) : ∀ j, v.ownBlock = some j → base ≤ j := fun j e => (h.lt j e).1
theorem kept_append2 {W w1 : World} {g base k : Nat} {cs : Array Value} {t e : TypeId} {fr : Nat × Nat} {v : Value} {xs : List Value} {tmp : Obj} (h : W.heap[g]? = some (.cells cs t fr)) (hte : t ≠ e) (hr : W.ownsRow base e 1 v k xs)
    (hg : (W.alloc tmp).grownBy w1 v.ownBlock) : w1.heap[g]? = some (.cells cs t fr) := by
  have h1 : (W.alloc tmp).heap[g]? = some (.cells cs t fr) := below_row ((Below.refl W.heap.size W).alloc (Nat.le_refl _) _) h
  exact (hg.block g (row_lt h1) (not_rowW h hte hr)).trans h1
theorem grownBy_setCellW (W : World) (g o : Nat) (v : Value) : W.grownBy (W.setCell ⟨g, o, none⟩ v) (some g) :=
  ⟨rfl, rfl, rfl, by simp, fun k _ hne => heap_setCell_other _ ⟨g, o, none⟩ _ _ (fun e => hne (by simp at e; rw [e]))⟩

/-! ### The model's -/
set_option maxRecDepth 100000 in
set_option maxHeartbeats 1000000 in
theorem l02Shut_any (n : Int) (wd gp : Nat) (t : Int) (sh : Nat) (ok : BlOk n wd gp t sh) (h : Int) (h0 : 1 ≤ h) (h1 : h ≤ 64) (w : World) :
    Calls Try.prog 41 #[.agg (blindC n wd gp t sh), .int .i64 h] w fun e w' => (∃ v, e = .returned v ∧ Own w' w.heap.size 2 (Value.int .i64) v (wantT (shutP wd gp h) (tls 129))) ∧ Below w.heap.size w w' := by
  obtain ⟨i0, hi, hz0, hz1, hz2⟩ := info_parts infoW
  have HO := Lib.hid (fun (x : Int) (x0 : -64 ≤ x) (x1 : x ≤ 64) W hg => l02Open_any n wd gp x sh (blok_tilt _ _ _ _ _ ok x0 x1) h h0 h1 w.heap.size 28 (0, 0) W hg)
  clear ok h0 h1
  go_enter Try.func41, Try.ntmps41
  go_upto_region 1 with (fail)
  refine abs_world (fun W => Below w.heap.size w W ∧ W.heap[w.heap.size]? = some (.cells (blindC n wd gp t sh) 28 (0, 0))) ⟨(Below.refl _ _).alloc (Nat.le_refl _) _, heap_alloc_new _ _⟩ ?_
  rintro W ⟨hb, d0⟩
  have D0 := Lib.hid d0
  clear d0
  go_wp2
  have hrow0 : (W.alloc (.cells #[] 2)).ownsRow w.heap.size 2 1 (.slice (some ⟨W.heap.size, 0, none⟩) 0 0) 0 [] := World.ownsRow_made _ _ _ hb.size (Nat.zero_le _) rfl
  go_loopw [5, 6] (fun o i wr => ∃ (vo : Value) (k : Nat) (t' : Int), vo = o ∧ k ≤ 129 ∧ i = .int .i64 ((k : Int) - 64) ∧ wr.ownsRow w.heap.size 2 1 o (wantT (shutP wd gp h) (tls k)).length ((wantT (shutP wd gp h) (tls k)).map (Value.int .i64)) ∧ Below w.heap.size w wr ∧ wr.heap[w.heap.size]? = some (.cells (blindC n wd gp t' sh) 28 (0, 0))) (fun _ i _ => (65 - intOf i).toNat)
  case atStart => exact ⟨_, 0, t, rfl, Nat.zero_le _, rfl, hrow0, hb.alloc hb.size _, below_row ((Below.refl _ _).alloc (Nat.le_refl _) _) D0.out⟩
  case round =>
    clear hrow0 hb D0
    obtain ⟨vo, k, t', rfl, hk, rfl, hrow, hb, d0⟩ := hrel
    have hwl := wantT_len (shutP wd gp h) (tls k)
    rw [tls_length] at hwl
    by_cases hlt : k < 129
    · have z0 : (-64 : Int) ≤ (k : Int) - 64 := by omega
      have z1 : (k : Int) - 64 ≤ 64 := by omega
      have HX := Lib.hid (HO.out ((k : Int) - 64) z0 z1)
      obtain ⟨k0, k1, k2, k3, k4⟩ := blind_cells d0
      have kf := frozen_of_row wr w.heap.size 3 _ _ d0
      have D0 := Lib.hid d0
      have hne := not_rowW d0 (by decide) hrow
      obtain ⟨o, ho⟩ : ∃ o, FloatKind.f32.format.order (opnB wd gp ((k : Int) - 64) h) 0 = some o := ⟨_, order_num (.inl (Nat.lt_of_le_of_lt (opn_facts wd gp _ h).2 (by decide))) (.inl (by decide))⟩
      clear d0
      go_upto_region 6 with (fail)
      refine abs_world (fun V => Below w.heap.size w V ∧ V.heap[w.heap.size]? = some (.cells (blindC n wd gp ((k : Int) - 64) sh) 28 (0, 0)) ∧ V.ownsRow w.heap.size 2 1 vo (wantT (shutP wd gp h) (tls k)).length ((wantT (shutP wd gp h) (tls k)).map (Value.int .i64))) ⟨hb.setCell (p := ⟨w.heap.size, 3, none⟩) (Nat.le_refl _) _, by rw [heap_setCell_same _ _ _ _ _ _ D0.out]; rfl, hrow.kept (grownBy_setCellW wr w.heap.size 3 _) (.inr hne.symm)⟩ ?_
      clear hb D0 k0 k1 k2 k3 k4 kf hrow hne
      rintro W2 ⟨hbw, d2, hrow2⟩
      have HD := Lib.hid d2
      clear d2
      cases o
      · have HN : Hid (wantT (shutP wd gp h) (tls (k + 1)) = wantT (shutP wd gp h) (tls k)) := by
          unfold Hid; rw [tls_succ]; exact wantT_miss _ _ _ (by rw [tl_val k hlt]; unfold shutP; rw [ho]; rfl)
        go_wp2_with (go_at_call 59; refine (HX.out _ HD.out).mono ?_; rintro e W3 ⟨rfl, hb3⟩; have hrow3 := owns_below hrow2 hb3; have hD3 := Lib.hid (below_row hb3 HD.out); have hbw3 := hbw.trans (hb3.mono hbw.size); have hsz3 := hbw3.size)
        go_roundw
        case rel => exact ⟨_, k + 1, _, rfl, by omega, by simp; omega, by rw [HN.out]; exact hrow3, hbw3, hD3.out⟩
        case measure => simp [intOf]; omega
      · have HN : Hid (wantT (shutP wd gp h) (tls (k + 1)) = wantT (shutP wd gp h) (tls k) ++ [(k : Int) - 64]) := by
          unfold Hid; rw [tls_succ, wantT_hit _ _ _ (by rw [tl_val k hlt]; unfold shutP; rw [ho]; rfl), tl_val k hlt]
        go_wp2_with (first | (go_at_call 59; refine (HX.out _ HD.out).mono ?_; rintro e W3 ⟨rfl, hb3⟩; have hrow3 := owns_below hrow2 hb3; have hD3 := Lib.hid (below_row hb3 HD.out); have hbw3 := hbw.trans (hb3.mono hbw.size); have hsz3 := hbw3.size) | (at_builtin; refine wpList_append_own _ rfl _ _ 34 rfl w.heap.size 2 i0 (.int .i64 0) 1 8 Try.underlying34 hi hz0 hz1 hz2 rfl (by decide) _ _ _ rfl (hrow3.alloc _) ⟨W3.heap.size, 0, none⟩ 1 1 [.int .i64 ((k : Int) - 64)] rfl rfl (cell_one_new _ _ _) (by simp [Value.oneCell']) (by unfold maxLen; omega) (by omega) (by simp; omega) ?_; intro v' w1 hown' hgrow _))
        go_roundw
        case rel => exact ⟨_, k + 1, _, rfl, by omega, by simp; omega, by rw [HN.out]; simpa using hown', (hbw3.alloc (by omega) _).grown hgrow (by simp; omega) (row_base hrow3), kept_append2 hD3.out (by decide) hrow3 hgrow⟩
        case measure => simp [intOf]; omega
      · have HN : Hid (wantT (shutP wd gp h) (tls (k + 1)) = wantT (shutP wd gp h) (tls k)) := by
          unfold Hid; rw [tls_succ]; exact wantT_miss _ _ _ (by rw [tl_val k hlt]; unfold shutP; rw [ho]; rfl)
        go_wp2_with (go_at_call 59; refine (HX.out _ HD.out).mono ?_; rintro e W3 ⟨rfl, hb3⟩; have hrow3 := owns_below hrow2 hb3; have hD3 := Lib.hid (below_row hb3 HD.out); have hbw3 := hbw.trans (hb3.mono hbw.size); have hsz3 := hbw3.size)
        go_roundw
        case rel => exact ⟨_, k + 1, _, rfl, by omega, by simp; omega, by rw [HN.out]; exact hrow3, hbw3, hD3.out⟩
        case measure => simp [intOf]; omega
    · obtain rfl : k = 129 := by omega
      have HR : Hid (Own wr w.heap.size 2 (Value.int .i64) vo (wantT (shutP wd gp h) (tls 129))) := own_of_row hrow (by unfold maxLen; omega)
      clear hrow d0
      go_wp2
      go_ret
      exact ⟨⟨_, rfl, HR.out⟩, hb⟩

set_option maxRecDepth 100000 in
set_option maxHeartbeats 1000000 in
theorem specShutTilts_yes (n : Int) (wd gp : Nat) (t : Int) (sh : Nat) (bw : BlWf n wd gp t sh) (h : Int) (hk : okBl n wd gp t sh = true) (hi : inI 1 64 h = true) (w : World) :
    Calls Try.prog 11 #[.agg (blindC n wd gp t sh), .int .i64 h] w (RetList (wantT (shutP wd gp h) (tls 129)) 0 w) := by
  obtain ⟨T0, T1⟩ := blwf_t bw
  obtain ⟨N0, N1⟩ := blwf_n bw
  obtain ⟨h0, h1⟩ := inI_get hi
  have OK := blok_of bw hk
  have HC := Lib.hid (fun W => l02Shut_any n wd gp t sh OK h h0 h1 W)
  have Hc : Hid (codeC (okBl n wd gp t sh) true = 0) := by rw [hk]; rfl
  have Hi := Lib.hid hi
  clear OK h0 h1 hk hi bw
  go_enter Try.func11, Try.ntmps11
  go_upto_region 1 with (fail)
  refine abs_world (fun W => Below w.heap.size w W ∧ W.heap[w.heap.size]? = some (.cells (blindC n wd gp t sh) 28 (0, 0))) ⟨(Below.refl _ _).alloc (Nat.le_refl _) _, heap_alloc_new _ _⟩ ?_
  rintro W ⟨hb, d0⟩
  have D0 := Lib.hid d0
  clear d0
  go_wp2_with (first | (go_at_call 34; refine (l02Up_is h true Hi.out _).mono ?_; rintro e w' ⟨rfl, rfl⟩) | (go_at_call 33; refine (l02Asked_is n wd gp t sh T0 T1 N0 N1 w.heap.size _ _ true 0 Hc.out _ D0.out).mono ?_; rintro e w' ⟨rfl, rfl⟩) | (refine wpList_load_part rfl 28 _ rfl w.heap.size 0 5 rfl 28 (blindC n wd gp t sh) (0, 0) _ D0.out Try.underlying28 rfl info_blind (blind_fits _ _ _ _ _) _ (blind_all _ _ _ _ _) ?_) | (go_at_call 41; refine (HC.out _).mono ?_; rintro e W3 ⟨⟨v, rfl, hv⟩, hb3⟩))
  go_ret2
  exact ⟨⟨_, rfl, own_base hv hb.size⟩, hb.trans (hb3.mono hb.size)⟩

set_option maxRecDepth 100000 in
set_option maxHeartbeats 1000000 in
theorem specShutTilts_no (n : Int) (wd gp : Nat) (t : Int) (sh : Nat) (bw : BlWf n wd gp t sh) (h : Int) (hk : ¬ (okBl n wd gp t sh = true ∧ inI 1 64 h = true)) (w : World) :
    Calls Try.prog 11 #[.agg (blindC n wd gp t sh), .int .i64 h] w (RetList [] (codeC (okBl n wd gp t sh) (inI 1 64 h)) w) := by
  obtain ⟨T0, T1⟩ := blwf_t bw
  obtain ⟨N0, N1⟩ := blwf_n bw
  have hne := codeC_ne hk
  generalize hf : inI 1 64 h = fine at *
  generalize hc : codeC (okBl n wd gp t sh) fine = c at *
  have Hc := Lib.hid hc
  have Hi := Lib.hid hf
  have hne' : (c != 0) = true := bne_iff_ne.2 hne
  clear hk hc hf hne bw
  go_enter Try.func11, Try.ntmps11
  go_upto_region 1 with (fail)
  refine abs_world (fun W => Below w.heap.size w W ∧ W.heap[w.heap.size]? = some (.cells (blindC n wd gp t sh) 28 (0, 0))) ⟨(Below.refl _ _).alloc (Nat.le_refl _) _, heap_alloc_new _ _⟩ ?_
  rintro W ⟨hb, d0⟩
  have D0 := Lib.hid d0
  clear d0
  go_wp2_with (first | (go_at_call 34; refine (l02Up_is h fine Hi.out _).mono ?_; rintro e w' ⟨rfl, rfl⟩) | (go_at_call 33; refine (l02Asked_is n wd gp t sh T0 T1 N0 N1 w.heap.size _ _ fine c Hc.out _ D0.out).mono ?_; rintro e w' ⟨rfl, rfl⟩))
  go_ret2
  exact ⟨⟨_, rfl, ⟨_, 0, rfl, Nat.zero_le _, Nat.le_refl _, .inr ⟨_, #[], rfl, hb.size, heap_alloc_new _ _, fun k hk => absurd hk (Nat.not_lt_zero k)⟩⟩⟩, hb.alloc hb.size _⟩

end Go.Proofs.Ytdccmdcgbembpaa
