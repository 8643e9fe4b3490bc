/-
  The hour with the most light on a window: the program's walk over the hours.
-/
import Derived.Test.YtadonkadkikfpaaBest
namespace Go.Proofs.Ytadonkadkikfpaa
open Go.RowKit Go.Shelf

attribute [local go_sem] Oper.semAt_some run_store_float

theorem list_round {P : Program} {l n : Nat} {ops : Array Oper} {Q : Exit → Act → World → Prop} (hlo : ¬ LetsOut Q) :
    ∀ (os : List Oper) (_ : ∀ o ∈ os, ∀ c, o.op ≠ .defer c) (a : Act) (w : World), wpList P ops Q os a w → wpListIn (Fence.wide.inRound l) n P ops Q os a w
  | [], _, _, _, h => h
  | o :: os, hd, a, w, h => by
    unfold wpList at h
    unfold wpListIn
    split
    · rename_i hw
      rw [if_pos hw] at h
      have h2 := h.resolve_right (fun h => hlo h.2)
      exact Oper.wpIn_mono (fun a w h => list_round hlo os (fun o ho => hd o (List.mem_cons_of_mem _ ho)) a w h) (op_round (hd o List.mem_cons_self) h2)
    · rename_i hw
      rw [if_neg hw] at h
      exact ⟨fun _ _ => trivial, list_round hlo os (fun o ho => hd o (List.mem_cons_of_mem _ ho)) _ w h⟩

/-- A region that draws no order, in a round: from the law outside. -/
theorem region_list_round {P : Program} {l n id : Nat} {os : List Oper} {Q : Exit → Act → World → Prop} {a : Act} {w : World} (hd : os.all (fun o => match o.op with | .defer _ => false | _ => true) = true) (hlo : ¬ LetsOut Q)
    (h : wpList P os.toArray Q os a w) : (Code.region id os.toArray false).wpIn (Fence.wide.inRound l) n P Q a w :=
  wpIn_region_lit (list_round hlo os (fun o ho c hc => by
    have := List.all_eq_true.1 hd o ho
    rw [hc] at this
    cases this) a w h)

theorem wp_only {P : Program} {c : Code} {K : Act → World → Prop} {Q : Exit → Act → World → Prop} {a : Act} {w : World} (h : c.wp P (Exit.then K (fun _ _ _ => False)) a w) : c.wp P (Exit.then K Q) a w :=
  Code.wp_mono (fun e a w h => by cases e <;> first | exact h | exact h.elim) h

/-- What the walk over the hours keeps: the sun, the facing, the best so far, whatever lay before. -/
def BestI (w : World) (hs ts : List Int) (facing : Int) (sb : Nat) (g : Nat → Nat) (pre : List Hr) (W : World) : Prop :=
  ∃ b s : Nat, pos32 s = true ∧ W.heap[w.heap.size]? = some (.cells (sunC hs ts) 32 (0, 0)) ∧ W.heap[w.heap.size + 1]? = some (.cells #[.int .i64 facing] 2 (0, 0)) ∧ W.heap[sb]? = some (.cells #[.int .i64 (b : Int)] 2 (0, 0)) ∧ W.heap[sb + 1]? = some (.cells #[.float .f32 s] 22 (0, 0)) ∧ (Good pre → bestTo g pre.length = (b, s)) ∧ Below w.heap.size w W

theorem bestI_own (w : World) (hs ts : List Int) (facing : Int) (sb : Nat) (g : Nat → Nat) (B : Nat) (hB : w.heap.size ≤ B) : OwnFrom B (BestI w hs ts facing sb g) := by
  intro s W W' row ⟨x, y, hx, h0, h1, h2, h3, hg, hb⟩ hg' hr
  have hr2 := fun r e => (hr r e).2
  exact ⟨x, y, hx, heap_kept h0 hg' hr2, heap_kept h1 hg' hr2, heap_kept h2 hg' hr2, heap_kept h3 hg' hr2, hg, ownFrom_below (β := Unit) (Nat.le_refl _) hB () W W' row hb hg' hr⟩

theorem best_snoc {g : Nat → Nat} {pre : List Hr} {k : Nat} {h01 : 0 ≤ (k : Int) ∧ (k : Int) < 24} {bs bs' : Nat × Nat} (hl : pre.length < 24) (hgood : Good pre → bestTo g pre.length = bs) (hn : bestTo g k = bs → bestTo g (k + 1) = bs') (hgs : Good (pre ++ [⟨k, h01⟩])) :
    bestTo g (pre ++ [(⟨k, h01⟩ : Hr)]).length = bs' := by
  obtain ⟨hgp, hxk⟩ := good_snoc hgs hl
  have hkl : k = pre.length := by have : (k : Int) = (pre.length : Int) := hxk; omega
  rw [List.length_append, List.length_singleton, ← hkl]
  exact hn (by rw [hkl]; exact hgood hgp)

theorem best_keep {w W W2 : World} {hs ts : List Int} {facing : Int} {sb : Nat} {g : Nat → Nat} {pre : List Hr} {k : Nat} {h01 : 0 ≤ (k : Int) ∧ (k : Int) < 24} {b s : Nat} {o : Ordering} (hl : pre.length < 24) (hs0 : pos32 s = true)
    (ho : FloatKind.f32.format.order (g k) s = some o) (hgt : o ≠ .gt)
    (hgood : Good pre → bestTo g pre.length = (b, s)) (hk : KeepsOthers W W2) (hbW : Below w.heap.size W W2) (hH : W2.heap[w.heap.size]? = some (.cells (sunC hs ts) 32 (0, 0))) (hF : W2.heap[w.heap.size + 1]? = some (.cells #[.int .i64 facing] 2 (0, 0))) (hB : W2.heap[sb]? = some (.cells #[.int .i64 (b : Int)] 2 (0, 0))) (hS : W2.heap[sb + 1]? = some (.cells #[.float .f32 s] 22 (0, 0))) (hb : Below w.heap.size w W2) :
    KeepsOthers W W2 ∧ Below w.heap.size W W2 ∧ BestI w hs ts facing sb g (pre ++ [⟨k, h01⟩]) W2 := by
  refine ⟨hk, hbW, b, s, hs0, hH, hF, hB, hS, best_snoc hl hgood (fun e => ?_), hb⟩
  exact (bestTo_no (g := g) (k := k) (by rw [e]; exact ho) hgt).trans e

theorem best_take {w W W2 : World} {hs ts : List Int} {facing : Int} {sb : Nat} {g : Nat → Nat} {pre : List Hr} {k : Nat} {h01 : 0 ≤ (k : Int) ∧ (k : Int) < 24} {b s : Nat} (hsb : w.heap.size + 1 < sb) (hl : pre.length < 24) (hg0 : pos32 (g k) = true)
    (ho : FloatKind.f32.format.order (g k) s = some .gt)
    (hgood : Good pre → bestTo g pre.length = (b, s)) (hk : KeepsOthers W W2) (hbW : Below w.heap.size W W2) (hH : W2.heap[w.heap.size]? = some (.cells (sunC hs ts) 32 (0, 0))) (hF : W2.heap[w.heap.size + 1]? = some (.cells #[.int .i64 facing] 2 (0, 0))) (hB : W2.heap[sb]? = some (.cells #[.int .i64 (b : Int)] 2 (0, 0))) (hS : W2.heap[sb + 1]? = some (.cells #[.float .f32 s] 22 (0, 0))) (hb : Below w.heap.size w W2) :
    let W3 := (W2.setCell ⟨sb, 0, none⟩ (.int .i64 (k : Int))).setCell ⟨sb + 1, 0, none⟩ (.float .f32 (g k))
    KeepsOthers W W3 ∧ Below w.heap.size W W3 ∧ BestI w hs ts facing sb g (pre ++ [⟨k, h01⟩]) W3 := by
  refine ⟨(hk.trans (KeepsOthers.setCell _ _ _)).trans (KeepsOthers.setCell _ _ _), (hbW.setCell (p := ⟨sb, 0, none⟩) (by simp; omega) _).setCell (p := ⟨sb + 1, 0, none⟩) (by simp; omega) _, k, g k, hg0, ?_, ?_, ?_, ?_, best_snoc hl hgood (fun e => ?_), (hb.setCell (p := ⟨sb, 0, none⟩) (by simp; omega) _).setCell (p := ⟨sb + 1, 0, none⟩) (by simp; omega) _⟩
  · rw [heap_setCell_other _ _ _ _ (by simp; omega), heap_setCell_other _ _ _ _ (by simp; omega)]; exact hH
  · rw [heap_setCell_other _ _ _ _ (by simp; omega), heap_setCell_other _ _ _ _ (by simp; omega)]; exact hF
  · rw [heap_setCell_other _ _ _ _ (by simp), heap_setCell_same _ _ _ _ _ _ hB]; rfl
  · rw [heap_setCell_same _ _ _ _ _ _ ((heap_setCell_other _ ⟨sb, 0, none⟩ _ _ (by simp)).trans hS)]; rfl
  · exact bestTo_gt (g := g) (k := k) (by rw [e]; exact ho)

set_option maxRecDepth 100000 in
set_option maxHeartbeats 1000000 in
theorem implBest_no (hs ts : List Int) (hh : hs.length = 24) (ht : ts.length = 24) (facing : Int) (h1 : ¬ (okB hs ts = true ∧ inF facing = true)) (w : World) :
    Calls Try.prog 36 #[.agg (sunC hs ts), .int .i64 facing] w fun e w' => e = .returned (.tuple #[.int .i64 0, .float .f32 0, .int .i64 (codeB (okB hs ts) (inF facing))]) ∧ Below w.heap.size w w' := by
  have hne := codeB_ne h1
  generalize hf : inF facing = fine at *
  generalize hc : codeB (okB hs ts) fine = c at *
  have Hc := Lib.hid hc
  have Hi := Lib.hid hf
  have hne' : (c != 0) = true := bne_iff_ne.2 hne
  have Hh := Lib.hid hh
  have Ht := Lib.hid ht
  clear hh ht h1 hc hf hne
  go_enter Try.func36, Try.ntmps36
  go_wp2
  refine wp_region_held_drew (S := (fun W => W.heap[w.heap.size]? = some (.cells (sunC hs ts) 32 (0, 0)) ∧ W.heap[w.heap.size + 1]? = some (.cells #[.int .i64 facing] 2 (0, 0)) ∧ Below w.heap.size w W)) (by kernel_rfl) ⟨(heap_alloc _ _ _).trans (by rw [if_neg (by simp)]; exact heap_alloc_new _ _), (heap_alloc _ _ _).trans (by rw [if_pos (by simp)]), (((Below.refl _ _).alloc (Nat.le_refl _) _).alloc (by simp) _).drew⟩ (fun hHeld => ?_)
  refine take_at (i := 0) (d := 12) (v := .agg (sunC hs ts)) rfl rfl (by kernel_rfl) (by kernel_rfl) (by kernel_rfl) (fun _ _ _ h => h) (yields_part (by rfl) 32 (.tmp 2) (by rfl) w.heap.size 0 48 (by rfl) 32 (sunC hs ts) (0, 0) _ (fun _ h => h.1) Try.underlying32 rfl info_sun (sun_fits _ _ Hh.out Ht.out) (sunC hs ts) (sun_all _ _ Hh.out Ht.out)) hHeld ?_
  simp only [List.setIfInBounds_toArray, List.set_cons_zero, List.set_cons_succ]
  refine take_at (i := 1) (d := 13) (v := ?_) rfl rfl (by kernel_rfl) (by kernel_rfl) (by kernel_rfl) (fun _ _ _ h => h) (Or.inl ⟨by rfl, ?hy1u1⟩) hHeld ?rest1u1
  case hy1u1 =>
    intro w' hS'
    obtain ⟨s1, s2, s3⟩ := hS'
    have s4 : w'.cell? ⟨w.heap.size + 1, 0, none⟩ = some (.int .i64 facing) := by rw [cell_of_row w' _ _ _ _ _ s2]; rfl
    go_simp
    try with_reducible rfl
  simp only [List.setIfInBounds_toArray, List.set_cons_zero, List.set_cons_succ]
  refine wpAnyH_ready (rs := [2]) (by kernel_rfl) (by simp) ?_
  refine AllReadyH.cons rfl (fun K hK => ?_) AllReadyH.nil
  go_simp
  refine (isFacing_is facing fine Hi.out _).mono ?_
  rintro e w' ⟨rfl, rfl⟩
  refine hK.out _ _ (hHeld) (fun hHeld2 => ?_)
  clear hK K
  replace hHeld := hHeld2
  clear hHeld2
  refine wpAnyH_ready (rs := [3]) (by kernel_rfl) (by simp) ?_
  refine AllReadyH.cons rfl (fun K hK => ?_) AllReadyH.nil
  go_simp
  refine (checkSun_is hs ts Hh.out Ht.out fine c Hc.out _).mono ?_
  rintro e W1 ⟨rfl, hb1⟩
  refine hK.out _ _ (⟨below_row hb1 hHeld.1, below_row hb1 hHeld.2.1, hHeld.2.2.trans (hb1.mono hHeld.2.2.size)⟩) (fun hHeld2 => ?_)
  clear hK K
  replace hHeld := hHeld2
  clear hHeld2
  refine take_at (i := 4) (d := 7) (v := ?_) rfl rfl (by kernel_rfl) (by kernel_rfl) (by kernel_rfl) (fun _ _ _ h => h) (Or.inl ⟨by rfl, ?hy4u2⟩) hHeld ?rest4u2
  case hy4u2 =>
    intro w' hS'
    go_simp
    try with_reducible rfl
  simp only [List.setIfInBounds_toArray, List.set_cons_zero, List.set_cons_succ]
  refine wpAnyH_done (by kernel_rfl) ?_ _
  obtain ⟨h0, hF, hb⟩ := hHeld
  clear h0 hF
  go_wp2
  go_ret3
  exact ⟨rfl, hb⟩

set_option maxRecDepth 100000 in
set_option maxHeartbeats 1000000 in
theorem implBest_yes (hs ts : List Int) (hh : hs.length = 24) (ht : ts.length = 24) (facing : Int) (h1 : okB hs ts = true) (h2 : inF facing = true) (w : World) :
    Calls Try.prog 36 #[.agg (sunC hs ts), .int .i64 facing] w fun e w' => e = .returned (.tuple #[.int .i64 ((bestTo (fun h => fallOf hs ts (h : Int) facing) 24).1 : Int), .float .f32 (bestTo (fun h => fallOf hs ts (h : Int) facing) 24).2, .int .i64 0]) ∧ Below w.heap.size w w' := by
  refine (callsIn_wide (n := 4)).1 ?_
  have Hc : Hid (codeB (okB hs ts) true = 0) := by rw [h1]; rfl
  have HC : Hid (∀ (k : Int), 0 ≤ k → k < 24 → ∀ W, Calls Try.prog 63 #[.agg (sunC hs ts), .int .i64 k, .int .i64 facing] W fun e w' => e = .returned (.float .f32 (fallOf hs ts k facing)) ∧ Below W.heap.size W w') := by
    intro k h0 h24 W
    have hbd := okB_h hh ht h1 k h0 h24
    have hby := okB_t hh ht h1 k h0 h24
    exact fallAt_any hs ts hh ht k facing h0 h24 (inF_bd h2).1 (inF_bd h2).2 hbd.2 hby.1 hby.2 W
  have Hi := Lib.hid h2
  have Hh := Lib.hid hh
  have Ht := Lib.hid ht
  clear hh ht h1 h2
  refine callsIn_of_wp_marks Try.func36 rfl trivial ?_ rfl
  simp only [Try.ntmps36, List.size_toArray, List.length_cons, List.length_nil, Nat.reduceAdd, Nat.reduceSub, Array.replicate_succ, Array.replicate_zero, List.push_toArray, List.append_toArray, List.nil_append, List.cons_append]
  refine wpIn_wide.2 ?_
  go_wp2
  refine wp_only ?_
  refine wp_region_held_drew (S := (fun W => W.heap[w.heap.size]? = some (.cells (sunC hs ts) 32 (0, 0)) ∧ W.heap[w.heap.size + 1]? = some (.cells #[.int .i64 facing] 2 (0, 0)) ∧ Below w.heap.size w W)) (by kernel_rfl) ⟨(heap_alloc _ _ _).trans (by rw [if_neg (by simp)]; exact heap_alloc_new _ _), (heap_alloc _ _ _).trans (by rw [if_pos (by simp)]), (((Below.refl _ _).alloc (Nat.le_refl _) _).alloc (by simp) _).drew⟩ (fun hHeld => ?_)
  refine take_at (i := 0) (d := 12) (v := .agg (sunC hs ts)) rfl rfl (by kernel_rfl) (by kernel_rfl) (by kernel_rfl) (fun _ _ _ h => h) (yields_part (by rfl) 32 (.tmp 2) (by rfl) w.heap.size 0 48 (by rfl) 32 (sunC hs ts) (0, 0) _ (fun _ h => h.1) Try.underlying32 rfl info_sun (sun_fits _ _ Hh.out Ht.out) (sunC hs ts) (sun_all _ _ Hh.out Ht.out)) hHeld ?_
  simp only [List.setIfInBounds_toArray, List.set_cons_zero, List.set_cons_succ]
  refine take_at (i := 1) (d := 13) (v := ?_) rfl rfl (by kernel_rfl) (by kernel_rfl) (by kernel_rfl) (fun _ _ _ h => h) (Or.inl ⟨by rfl, ?hy1u3⟩) hHeld ?rest1u3
  case hy1u3 =>
    intro w' hS'
    obtain ⟨s1, s2, s3⟩ := hS'
    have s4 : w'.cell? ⟨w.heap.size + 1, 0, none⟩ = some (.int .i64 facing) := by rw [cell_of_row w' _ _ _ _ _ s2]; rfl
    go_simp
    try with_reducible rfl
  simp only [List.setIfInBounds_toArray, List.set_cons_zero, List.set_cons_succ]
  refine wpAnyH_ready (rs := [2]) (by kernel_rfl) (by simp) ?_
  refine AllReadyH.cons rfl (fun K hK => ?_) AllReadyH.nil
  go_simp
  refine (isFacing_is facing true Hi.out _).mono ?_
  rintro e w' ⟨rfl, rfl⟩
  refine hK.out _ _ (hHeld) (fun hHeld2 => ?_)
  clear hK K
  replace hHeld := hHeld2
  clear hHeld2
  refine wpAnyH_ready (rs := [3]) (by kernel_rfl) (by simp) ?_
  refine AllReadyH.cons rfl (fun K hK => ?_) AllReadyH.nil
  go_simp
  refine (checkSun_is hs ts Hh.out Ht.out true 0 Hc.out _).mono ?_
  rintro e W1 ⟨rfl, hb1⟩
  refine hK.out _ _ (⟨below_row hb1 hHeld.1, below_row hb1 hHeld.2.1, hHeld.2.2.trans (hb1.mono hHeld.2.2.size)⟩) (fun hHeld2 => ?_)
  clear hK K
  replace hHeld := hHeld2
  clear hHeld2
  refine take_at (i := 4) (d := 7) (v := ?_) rfl rfl (by kernel_rfl) (by kernel_rfl) (by kernel_rfl) (fun _ _ _ h => h) (Or.inl ⟨by rfl, ?hy4u4⟩) hHeld ?rest4u4
  case hy4u4 =>
    intro w' hS'
    go_simp
    try with_reducible rfl
  simp only [List.setIfInBounds_toArray, List.set_cons_zero, List.set_cons_succ]
  refine wpAnyH_done (by kernel_rfl) ?_ _
  obtain ⟨h0, hF, hb⟩ := hHeld
  have hsb : w.heap.size + 1 < W1.heap.size := row_lt hF
  have H0 := Lib.hid h0
  have HF := Lib.hid hF
  clear h0 hF
  go_wp2
  refine (wpIn_wide (n := 4)).1 ?_
  refine wpIn_rangeFunc_ownF rfl (by decide) (gf := 64) (lb := #[]) rfl trivial (enters_of Try.func64 (by kernel_rfl) rfl)
    (eachHour_stops Fence.wide _ trivial rfl (by decide) w.heap.size _) belowK_t (belowK_b (by simp; omega)) (Below.refl _ _) (fun _ => rfl)
    (BestI w hs ts facing W1.heap.size (fun h => fallOf hs ts (h : Int) facing)) (fun _ _ _ => False) (bestI_own w hs ts facing _ _ _ (by simp; omega)) (fun _ _ _ _ _ hs _ _ => hs) ?h0
    (fun x => { tmps := #[.agg (sunC hs ts), .int .i64 facing, .pointer (some ⟨w.heap.size, 0, none⟩), .pointer (some ⟨w.heap.size + 1, 0, none⟩), .int .i64 0, .float .f32 0, .int .i64 0, .int .i64 0, .pointer (some ⟨W1.heap.size, 0, none⟩), .pointer (some ⟨W1.heap.size + 1, 0, none⟩), .int .i64 x.1, undef, .agg (sunC hs ts), .int .i64 facing, .bool true, .int .i64 0, .int .i64 0, .bool false, undef, .int .i64 x.1, undef, undef, undef, undef, undef, undef, undef, undef, undef, undef, undef], defers := [] }) ?assign ?body ?done ?stop
  case h0 =>
    refine ⟨0, 0, by decide, ?_, ?_, ?_, ?_, fun _ => rfl, (hb.alloc (by omega) _).alloc (by simp; omega) _⟩
    all_goals simp only [heap_alloc, World.size_alloc]
    · rw [if_neg (by omega), if_neg (by omega)]; exact H0.out
    · rw [if_neg (by omega), if_neg (by omega)]; exact HF.out
    · rw [if_neg (by omega), if_true]; rfl
    · rw [if_true]
  case assign =>
    intro l x W K hK
    gi_wp2
    exact hK
  case body =>
    clear hb1 hb H0 HF
    rintro l pre ⟨x, hx0, hx1⟩ W ⟨b, s, hs0, h0, hF, hB, hS, hg, hbw⟩ hl
    obtain ⟨k, rfl⟩ := Int.eq_ofNat_of_zero_le hx0
    have hk : k < 24 := by omega
    have HP : Hid (pos32 ((fun h => fallOf hs ts (h : Int) facing) k) = true) := fallB_pos _ _
    have HK := Lib.hid (HC.out (k : Int) hx0 hx1)
    obtain ⟨o, ho⟩ : ∃ o, FloatKind.f32.format.order (fallOf hs ts (k : Int) facing) s = some o := order_some (pos_fin (fallB_pos _ _)) (pos_fin hs0)
    have H0 := Lib.hid h0
    have HF := Lib.hid hF
    have HB := Lib.hid hB
    have HS := Lib.hid hS
    have HG := Lib.hid hg
    have HW := Lib.hid hbw
    have hcF : W.cell? ⟨w.heap.size + 1, 0, none⟩ = some (.int .i64 facing) := by rw [cell_of_row W _ _ _ _ _ hF]; rfl
    clear h0 hF hB hS hg hbw
    refine wpIn_block (wpIn_seq ?_)
    refine region_list_round (by rfl) (fun ⟨_, _, h⟩ => h) ?_
    go_wp2_with (first | (refine wpList_load_part rfl 32 _ rfl w.heap.size 0 48 rfl 32 (sunC hs ts) (0, 0) _ H0.out Try.underlying32 rfl info_sun (sun_fits _ _ Hh.out Ht.out) (sunC hs ts) (sun_all _ _ Hh.out Ht.out) ?_) | (go_at_call 63; refine (HK.out _).mono ?_; rintro e W2 ⟨rfl, hb1⟩))
    have hB1 : Hid (W2.heap[W1.heap.size]? = some (.cells #[.int .i64 (b : Int)] 2 (0, 0))) := below_row hb1 HB.out
    have hS1 : Hid (W2.heap[W1.heap.size + 1]? = some (.cells #[.float .f32 s] 22 (0, 0))) := below_row hb1 HS.out
    have h01 : Hid (W2.heap[w.heap.size]? = some (.cells (sunC hs ts) 32 (0, 0))) := below_row hb1 H0.out
    have hF1 : Hid (W2.heap[w.heap.size + 1]? = some (.cells #[.int .i64 facing] 2 (0, 0))) := below_row hb1 HF.out
    have hW1 : Hid (Below w.heap.size w W2) := HW.out.trans (hb1.mono HW.out.size)
    have hW2 : Hid (Below w.heap.size W W2) := hb1.mono HW.out.size
    have hK1 : Hid (KeepsOthers W W2) := keeps_of_below hb1
    have hcs : W2.cell? ⟨W1.heap.size + 1, 0, none⟩ = some (.float .f32 s) := by rw [cell_of_row W2 _ _ _ _ _ hS1.out]; rfl
    have hcb : W2.cell? ⟨W1.heap.size, 0, none⟩ = some (.int .i64 b) := by rw [cell_of_row W2 _ _ _ _ _ hB1.out]; rfl
    have hf1 := frozen_of_row W2 (W1.heap.size) 0 _ _ hB1.out
    have hf2 := frozen_of_row W2 (W1.heap.size + 1) 0 _ _ hS1.out
    have hf3 := frozen_of_row (W2.setCell ⟨W1.heap.size, 0, none⟩ (.int .i64 (k : Int))) (W1.heap.size + 1) 0 _ _ ((heap_setCell_other _ ⟨W1.heap.size, 0, none⟩ _ _ (by simp)).trans hS1.out)
    have hcs3 : (W2.setCell ⟨W1.heap.size, 0, none⟩ (.int .i64 (k : Int))).cell? ⟨W1.heap.size + 1, 0, none⟩ = some (.float .f32 s) := by rw [cell_of_row _ _ _ _ _ _ ((heap_setCell_other W2 ⟨W1.heap.size, 0, none⟩ _ _ (by simp)).trans hS1.out)]; rfl
    clear hb1
    cases o
    · gi_wp2
      exact best_keep (g := (fun h => fallOf hs ts (h : Int) facing)) hl hs0 ho (by decide) HG.out hK1.out hW2.out h01.out hF1.out hB1.out hS1.out hW1.out
    · gi_wp2
      exact best_keep (g := (fun h => fallOf hs ts (h : Int) facing)) hl hs0 ho (by decide) HG.out hK1.out hW2.out h01.out hF1.out hB1.out hS1.out hW1.out
    · gi_wp2
      exact best_take (g := (fun h => fallOf hs ts (h : Int) facing)) hsb hl HP.out ho HG.out hK1.out hW2.out h01.out hF1.out hB1.out hS1.out hW1.out
  case done =>
    clear hb1 hb H0 HF
    rintro D zs W hD rfl ⟨b, s, hs0, h0, hF, hB, hS, hg, hbw⟩ hK
    rename_i K hcont
    have hcs : W.cell? ⟨W1.heap.size + 1, 0, none⟩ = some (.float .f32 s) := by rw [cell_of_row W _ _ _ _ _ hS]; rfl
    have hcb : W.cell? ⟨W1.heap.size, 0, none⟩ = some (.int .i64 b) := by rw [cell_of_row W _ _ _ _ _ hB]; rfl
    have hD' : w.heap.size ≤ D := by simp at hD; omega
    have HSum := Lib.hid (hg good_all)
    rw [hrs_length] at HSum
    have HK := Lib.hid hK
    clear hg h0 hF hB hS hD hK
    refine hcont _ _ ?_
    go_wp2
    refine wp_only ?_
    refine wp_region_held_drew (S := (fun W => W.cell? ⟨W1.heap.size, 0, none⟩ = some (.int .i64 b) ∧ W.cell? ⟨W1.heap.size + 1, 0, none⟩ = some (.float .f32 s) ∧ W.heap[D]? = some (.deferred (some [])) ∧ Below w.heap.size w W)) (by kernel_rfl) ⟨by simpa using hcb, by simpa using hcs, HK.out, hbw.drew⟩ (fun hHeld => ?_)
    refine take_at (i := 0) (d := 29) (v := ?_) rfl rfl (by kernel_rfl) (by kernel_rfl) (by kernel_rfl) (fun _ _ _ h => h) (Or.inl ⟨by rfl, ?hy0u5⟩) hHeld ?rest0u5
    case hy0u5 =>
      intro w' hS'
      obtain ⟨s1, s2, s3, s4⟩ := hS'
      go_simp
      try with_reducible rfl
    simp only [List.setIfInBounds_toArray, List.set_cons_zero, List.set_cons_succ]
    refine take_at (i := 1) (d := 30) (v := ?_) rfl rfl (by kernel_rfl) (by kernel_rfl) (by kernel_rfl) (fun _ _ _ h => h) (Or.inl ⟨by rfl, ?hy1u6⟩) hHeld ?rest1u6
    case hy1u6 =>
      intro w' hS'
      obtain ⟨s1, s2, s3, s4⟩ := hS'
      go_simp
      try with_reducible rfl
    simp only [List.setIfInBounds_toArray, List.set_cons_zero, List.set_cons_succ]
    refine take_at (i := 2) (d := 4) (v := ?_) rfl rfl (by kernel_rfl) (by kernel_rfl) (by kernel_rfl) (fun _ _ _ h => h) (Or.inl ⟨by rfl, ?hy2u7⟩) hHeld ?rest2u7
    case hy2u7 =>
      intro w' hS'
      go_simp
      try with_reducible rfl
    simp only [List.setIfInBounds_toArray, List.set_cons_zero, List.set_cons_succ]
    refine take_at (i := 3) (d := 5) (v := ?_) rfl rfl (by kernel_rfl) (by kernel_rfl) (by kernel_rfl) (fun _ _ _ h => h) (Or.inl ⟨by rfl, ?hy3u8⟩) hHeld ?rest3u8
    case hy3u8 =>
      intro w' hS'
      go_simp
      try with_reducible rfl
    simp only [List.setIfInBounds_toArray, List.set_cons_zero, List.set_cons_succ]
    refine take_at (i := 4) (d := 6) (v := ?_) rfl rfl (by kernel_rfl) (by kernel_rfl) (by kernel_rfl) (fun _ _ _ h => h) (Or.inl ⟨by rfl, ?hy4u9⟩) hHeld ?rest4u9
    case hy4u9 =>
      intro w' hS'
      go_simp
      try with_reducible rfl
    simp only [List.setIfInBounds_toArray, List.set_cons_zero, List.set_cons_succ]
    refine wpAnyH_done (by kernel_rfl) ?_ _
    obtain ⟨_, _, hK2, hb2⟩ := hHeld
    go_wp2
    refine ⟨by simp, .inl ⟨_, _, rfl, run_takeDeferred hK2, ?_⟩⟩
    refine ⟨.tuple #[.int .i64 b, .float .f32 s, .int .i64 0], ?_, ?_, hb2.trans (belowK_b (w := w) (Nat.le_refl _) _ D _ _ hD' hK2 rfl rfl)⟩
    · exact results_tmp3 (fn := Try.f36) rfl _ _ _
    · rw [HSum.out]
  case stop =>
    rintro D c pre W _ _ h _
    exact h.elim

end Go.Proofs.Ytadonkadkikfpaa
