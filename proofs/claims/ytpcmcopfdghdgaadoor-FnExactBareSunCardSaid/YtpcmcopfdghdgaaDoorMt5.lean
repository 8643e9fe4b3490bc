/-
  TrU, TrX.
-/
import Derived.Test.YtpcmcopfdghdgaaDoorMt4
import Derived.Test.YtpcmcopfdghdgaaDoorMt1
import Derived.Deep.Cut
import Derived.Deep.DeepCutAuto

namespace Go.Proofs.YtpcmcopfdghdgaaDoor
open Go.ChangeShapes Go.WideShapes Go.ChangeAt Go.RowKit Go.Shelf Go.Deep Go.Joins

attribute [local go_sem] Oper.semAt_some run_store_f

/-- The heights that are left after the hours before n. -/
def bareL (hs : List Int) (q : Nat → Bool) : Nat → List Int
  | 0 => hs
  | n + 1 => if q n then (bareL hs q n).set n 0 else bareL hs q n

theorem bareL_len (hs : List Int) (q : Nat → Bool) : ∀ n, (bareL hs q n).length = hs.length
  | 0 => rfl
  | n + 1 => by
    have ih := bareL_len hs q n
    rw [bareL]
    split
    · rw [List.length_set]; exact ih
    · exact ih

theorem bareL_hit {hs : List Int} {q : Nat → Bool} {n : Nat} (h : q n = true) : bareL hs q (n + 1) = (bareL hs q n).set n 0 := by rw [bareL, if_pos h]

theorem bareL_miss {hs : List Int} {q : Nat → Bool} {n : Nat} (h : q n = false) : bareL hs q (n + 1) = bareL hs q n := by rw [bareL, if_neg (by rw [h]; decide)]

/-- What the walk over the hours keeps. -/
def BareI (w : World) (hs ts : List Int) (q : Nat → Bool) (b1 b2 m : Nat) (pre : List Hr) (W : World) : Prop :=
  ∃ a : List Int, a.length = 24 ∧ W.heap[w.heap.size]? = some (.cells (sunC a ts) 37 (0, 0)) ∧ W.heap[b1]? = some (.cells (sunC zer zer) 37 (0, 0)) ∧ W.heap[b2]? = some (.cells #[.int .u32 (m : Int)] 50 (0, 0)) ∧ (Good pre → a = bareL hs q pre.length) ∧ Below w.heap.size w W

theorem bareI_own (w : World) (hs ts : List Int) (q : Nat → Bool) (b1 b2 m : Nat) (B : Nat) (hB : w.heap.size ≤ B) : OwnFrom B (BareI w hs ts q b1 b2 m) := by
  intro s W W' row ⟨x, hx, h0, h1, h2, hg, hb⟩ hg' hr
  have hr2 := fun r e => (hr r e).2
  exact ⟨x, hx, heap_kept h0 hg' hr2, heap_kept h1 hg' hr2, heap_kept h2 hg' hr2, hg, ownFrom_below (β := Unit) (Nat.le_refl _) hB () W W' row hb hg' hr⟩

set_option maxRecDepth 100000 in
set_option maxHeartbeats 4000000 in
theorem iBs_no (sv : Value) (trs : List Tr) (hwf : ∀ x ∈ trs, TrWf x) (hs ts : List Int) (hh : hs.length = 24) (ht : ts.length = 24) (e0 e1 e2 e3 : Addr) (n : Nat) (hn : refN (okTs trs && okB hs ts) true true = n) (hne : (codeE n != 0) = true) (w : World) (hts : TreesAt w sv trs) (hE : ErrsAt w e0 e1 e2 e3) :
    Calls Tryd.prog 23 #[sv, .agg (sunC hs ts)] w fun e w' => e = .returned (.tuple #[.agg (sunC zer zer), .int .i64 (codeE n)]) ∧ Below w.heap.size w w' := by
  have HCT := Lib.hid (fun V h1 h2 => checkTrees_is sv trs hwf hs ts hh ht true e0 e1 e2 e3 n hn V h1 h2)
  have Hh := Lib.hid hh
  have Ht := Lib.hid ht
  have HA := Lib.hid hts
  have HX := Lib.hid hE
  clear hts hE hwf hh ht hn
  generalize codeE n = c at *
  go_enter Tryd.func23, Tryd.ntmps23
  go_upto_region 1 with (fail)
  generalize he : w.heap.size + 1 = b1
  refine abs_world (fun W => W.heap[w.heap.size]? = some (.cells (sunC hs ts) 37 (0, 0)) ∧ W.heap[b1]? = some (.cells (sunC zer zer) 37 (0, 0)) ∧ Below w.heap.size w W) ⟨new2_fst _ _ _, he ▸ new2_snd _ _ _, new2_below _ _ _⟩ ?_
  have hlt : w.heap.size < b1 := by omega
  rintro W ⟨h0, h1, hb⟩
  have H0 := Lib.hid h0
  have H1 := Lib.hid h1
  replace HA := Lib.hid (trees_below HA.out hb)
  replace HX := Lib.hid (errs_below HX.out hb)
  clear h0 h1 he
  go_wp2_with (first | (refine wpList_load_part rfl 37 _ rfl w.heap.size 0 48 rfl 37 (sunC hs ts) (0, 0) _ H0.out Tryd.underlying37 rfl info_sun (sun_fits _ _ Hh.out Ht.out) _ (sun_all _ _ Hh.out Ht.out) ?_) | (go_at_call 50; refine (HCT.out _ HA.out HX.out).mono ?_; rintro e W1 ⟨rfl, hb1⟩; replace H0 := Lib.hid (below_row hb1 H0.out); replace H1 := Lib.hid (below_row hb1 H1.out); replace HA := Lib.hid (trees_below HA.out hb1); replace HX := Lib.hid (errs_below HX.out hb1); replace hb := hb.trans (hb1.mono hb.size); clear hb1) | (refine wpList_store_part rfl 37 _ _ rfl b1 0 (sunC zer zer) rfl rfl 37 _ H1.out info_zz (by decide) (i16s_one _) ?_; rw [laid_all _ _ (by rfl)]))
  refine bodyPost_ret (results_sun rfl _ _ b1 zer zer rfl rfl rfl (setRow_heap _ _ _ _ _ _ H1.out)) rfl ?_
  exact ⟨rfl, below_setRow hb (by omega) _⟩

set_option maxRecDepth 100000 in
set_option maxHeartbeats 4000000 in
theorem iBs_yes (sv : Value) (trs : List Tr) (hwf : ∀ x ∈ trs, TrWf x) (hs ts : List Int) (hh : hs.length = 24) (ht : ts.length = 24) (e0 e1 e2 e3 : Addr) (hn : refN (okTs trs && okB hs ts) true true = 0) (ho : okB hs ts = true) (w : World) (hts : TreesAt w sv trs) (hE : ErrsAt w e0 e1 e2 e3) :
    Calls Tryd.prog 23 #[sv, .agg (sunC hs ts)] w fun e w' => e = .returned (.tuple #[.agg (sunC (bareL hs (fun k : Nat => trs.any (fun x => hidT hs ts x (k : Int))) 24) ts), .int .i64 0]) ∧ Below w.heap.size w w' := by
  refine (callsIn_wide (n := 4)).1 ?_
  have HCT := Lib.hid (fun V h1 h2 => checkTrees_is sv trs hwf hs ts hh ht true e0 e1 e2 e3 0 hn V h1 h2)
  have HHB := Lib.hid (fun V h => hiddenBy_any sv trs hwf hs ts hh ht (fun k hk => okB_t hh ht ho (k : Int) (by omega) (by omega)) V h)
  have Hh := Lib.hid hh
  have Ht := Lib.hid ht
  have HA := Lib.hid hts
  have HX := Lib.hid hE
  obtain ⟨q, hq⟩ : ∃ q : Nat → Bool, q = fun k : Nat => trs.any (fun x => hidT hs ts x (k : Int)) := ⟨_, rfl⟩
  rw [← hq] at HHB ⊢
  have HBT := Lib.hid (bit_of q)
  clear hts hE hwf hh ht hn ho hq
  generalize maskN q 24 = m at *
  refine callsIn_of_wp_marks Tryd.func23 rfl trivial ?_ rfl
  simp only [Tryd.ntmps23, List.size_toArray, List.length_cons, List.length_nil, Nat.reduceAdd, Nat.reduceSub, Array.replicate_succ, Array.replicate_zero, List.push_toArray, List.append_toArray, List.nil_append, List.cons_append]
  refine wpIn_wide.2 ?_
  go_upto_region 1 with (fail)
  generalize he : w.heap.size + 1 = b1
  refine abs_world (fun W => W.heap[w.heap.size]? = some (.cells (sunC hs ts) 37 (0, 0)) ∧ W.heap[b1]? = some (.cells (sunC zer zer) 37 (0, 0)) ∧ Below w.heap.size w W) ⟨new2_fst _ _ _, he ▸ new2_snd _ _ _, new2_below _ _ _⟩ ?_
  have hlt : w.heap.size < b1 := by omega
  rintro W ⟨h0, h1, hb⟩
  have H0 := Lib.hid h0
  have H1 := Lib.hid h1
  replace HA := Lib.hid (trees_below HA.out hb)
  replace HX := Lib.hid (errs_below HX.out hb)
  clear h0 h1 he
  go_upto_region 4 with (first | (refine wpList_load_part rfl 37 _ rfl w.heap.size 0 48 rfl 37 (sunC hs ts) (0, 0) _ H0.out Tryd.underlying37 rfl info_sun (sun_fits _ _ Hh.out Ht.out) _ (sun_all _ _ Hh.out Ht.out) ?_) | (go_at_call 50; refine (HCT.out _ HA.out HX.out).mono ?_; rintro e W1 ⟨rfl, hb1⟩; replace H0 := Lib.hid (below_row hb1 H0.out); replace H1 := Lib.hid (below_row hb1 H1.out); replace HA := Lib.hid (trees_below HA.out hb1); replace HX := Lib.hid (errs_below HX.out hb1); replace hb := hb.trans (hb1.mono hb.size); clear hb1))
  go_wp2_with (first | (refine wpList_load_part rfl 37 _ rfl w.heap.size 0 48 rfl 37 (sunC hs ts) (0, 0) _ H0.out Tryd.underlying37 rfl info_sun (sun_fits _ _ Hh.out Ht.out) _ (sun_all _ _ Hh.out Ht.out) ?_) | (go_at_call 51; refine (HHB.out _ HA.out).mono ?_; rintro e W2 ⟨rfl, hb1⟩; replace H0 := Lib.hid (below_row hb1 H0.out); replace H1 := Lib.hid (below_row hb1 H1.out); replace HA := Lib.hid (trees_below HA.out hb1); replace HX := Lib.hid (errs_below HX.out hb1); replace hb := hb.trans (hb1.mono hb.size); clear hb1))
  refine abs_world (fun V => V.heap[w.heap.size]? = some (.cells (sunC hs ts) 37 (0, 0)) ∧ V.heap[b1]? = some (.cells (sunC zer zer) 37 (0, 0)) ∧ V.heap[W2.heap.size]? = some (.cells #[.int .u32 (m : Int)] 50 (0, 0)) ∧ Below w.heap.size w V) ⟨kept_obj ((Below.refl _ _).alloc (Nat.le_refl _) _) H0.out, kept_obj ((Below.refl _ _).alloc (Nat.le_refl _) _) H1.out, heap_alloc_new _ _, hb.alloc hb.size _⟩ ?_
  have hl2 : b1 < W2.heap.size := row_lt H1.out
  clear H0 H1 HA HX hb HCT HHB
  generalize W2.heap.size = b2 at *
  rintro V ⟨h0, h1, h2, hb⟩
  have hlV : w.heap.size ≤ V.heap.size := hb.size
  have hlb : b2 < V.heap.size := row_lt h2
  refine (wpIn_wide (n := 4)).1 ?_
  refine wpIn_rangeFunc_ownF rfl (by decide) (gf := 53) (lb := #[]) rfl trivial (enters_of Tryd.func53 (by kernel_rfl) rfl)
    (eachHour_stops Fence.wide _ trivial rfl (by decide) w.heap.size _) belowK_t (belowK_b hlV) (Below.refl _ _) (fun _ => rfl)
    (BareI w hs ts q b1 b2 m) (fun _ _ _ => False) (bareI_own w hs ts q b1 b2 m _ hlV) (fun _ _ _ _ _ hs _ _ => hs) ?h0
    (fun x => { tmps := #[sv, .agg (sunC hs ts), undef, .pointer (some ⟨w.heap.size, 0, none⟩), .pointer (some ⟨b1, 0, none⟩), .int .i64 0, .int .i64 (codeE 0), .pointer (some ⟨b2, 0, none⟩), .int .i64 x.1, sv, .agg (sunC hs ts), .int .i64 (codeE 0), .int .i64 (codeE 0), .bool false, undef, undef, sv, .agg (sunC hs ts), .int .u32 (m : Int), .int .i64 x.1, undef, undef, undef, undef, undef, undef, undef, undef, undef], defers := [] }) ?assign ?body ?done ?stop
  case h0 => exact ⟨hs, Hh.out, h0, h1, h2, fun _ => rfl, hb⟩
  case assign =>
    intro l x W K hK
    gi_wp2
    exact hK
  case body =>
    clear h0 h1 h2 hb
    rintro l pre ⟨x, hx0, hx1⟩ V2 ⟨a, ha, h0, h1, h2, hg, hb⟩ hl
    obtain ⟨k, rfl⟩ := Int.eq_ofNat_of_zero_le hx0
    have hk : k < 24 := by omega
    have hbt := HBT.out k hk
    have c1 : V2.cell? ⟨b2, 0, none⟩ = some (.int .u32 (m : Int)) := by rw [cell_of_row _ _ _ _ _ _ h2]; rfl
    have c2 := cell_sun_h h0 ha k hk
    have f2 := frozen_of_row V2 w.heap.size k _ _ h0
    have w1 : IntKind.i64.wrap (k : Int) = (k : Int) := by rw [IntWalk.i64_in _ (by omega)]
    have w2 : IntKind.u64.wrap (k : Int) = (k : Int) := by rw [IntWalk.u64_in _ (by omega)]
    have w3 : (k : Int) ≤ 32 := by omega
    have hM : ∀ a', (q k = true → a' = a.set k 0) → (q k = false → a' = a) → Good (pre ++ [⟨(k : Int), hx0, hx1⟩]) → a' = bareL hs q (pre ++ [(⟨(k : Int), hx0, hx1⟩ : Hr)]).length := by
      intro a' e1 e2 hgs
      obtain ⟨hgp, hxk⟩ := good_snoc hgs hl
      have hkl : k = pre.length := by have : (k : Int) = (pre.length : Int) := hxk; omega
      rw [List.length_append, List.length_singleton, ← hkl]
      cases hq : q k with
      | true => rw [e1 hq, bareL_hit hq, hg hgp, ← hkl]
      | false => rw [e2 hq, bareL_miss hq, hg hgp, ← hkl]
    have r0 := sun_set_h h0 k (by omega) 0
    have r1 := (heap_setCell_other V2 ⟨w.heap.size, k, none⟩ _ (.int .i16 0) (by simp; omega)).trans h1
    have r2 := (heap_setCell_other V2 ⟨w.heap.size, k, none⟩ _ (.int .i16 0) (by simp; omega)).trans h2
    have R0 := Lib.hid (And.intro r0 (And.intro r1 r2))
    have K0 := Lib.hid (And.intro h0 (And.intro h1 h2))
    have HM := Lib.hid hM
    have HX := Lib.hid ha
    clear h0 h1 h2 r0 r1 r2 hM hg ha
    refine wpIn_block (wpIn_seq ?_)
    refine region_list_round (by rfl) (fun ⟨_, _, h⟩ => h) ?_
    cases hq : q k with
    | false =>
      rw [hq] at hbt
      have HQ := Lib.hid hq
      clear hq
      go_wp2
      gi_wp2
      exact ⟨KeepsOthers.refl _, Below.refl _ _, a, HX.out, K0.out.1, K0.out.2.1, K0.out.2.2, HM.out a (fun h => by rw [HQ.out] at h; cases h) (fun _ => rfl), hb⟩
    | true =>
      rw [hq] at hbt
      have HQ := Lib.hid hq
      clear hq
      go_wp2
      gi_wp2
      exact ⟨KeepsOthers.setCell _ _ _, (Below.refl w.heap.size V2).setCell (p := ⟨w.heap.size, k, none⟩) (Nat.le_refl _) _, a.set k 0, by simp [HX.out], R0.out.1, R0.out.2.1, R0.out.2.2, HM.out _ (fun _ => rfl) (fun h => by rw [HQ.out] at h; cases h), hb.setCell (p := ⟨w.heap.size, k, none⟩) (Nat.le_refl _) _⟩
  case done =>
    clear h0 h1 h2 hb
    rintro D zs V2 hD rfl ⟨a, ha, h0, h1, h2, hg, hb⟩ hK
    rename_i K hcont
    have hD' : w.heap.size ≤ D := by omega
    have hDb : D ≠ b1 := by omega
    have hM := hg good_all
    rw [hrs_length] at hM
    have H0 := Lib.hid h0
    have H1 := Lib.hid h1
    have HK := Lib.hid hK
    have HL := Lib.hid ha
    have HMM := Lib.hid hM
    generalize a = L at *
    clear hg h0 h1 h2 hD hK ha hM
    refine hcont _ _ ?_
    go_wp2_with (first | (refine wpList_load_part rfl 37 _ rfl w.heap.size 0 48 rfl 37 (sunC L ts) (0, 0) _ H0.out Tryd.underlying37 rfl info_sun (sun_fits _ _ HL.out Ht.out) (sunC L ts) (sun_all _ _ HL.out Ht.out) ?_) | (refine wpList_store_part rfl 37 _ _ rfl b1 0 (sunC L ts) rfl rfl 37 _ H1.out (by rw [sunC_size _ _ HL.out Ht.out]; exact info_sun) (by rw [sunC_size _ _ HL.out Ht.out]; decide) (i16s_one _) ?_; rw [laid_all _ _ (by rw [sunC_size _ _ HL.out Ht.out]; rfl)]))
    have hK2 : (V2.setRow b1 (sunC L ts)).heap[D]? = some (.deferred (some [])) := (setRow_other _ _ _ _ hDb).trans HK.out
    have hR := setRow_heap V2 b1 _ (sunC L ts) _ _ H1.out
    refine ⟨by simp, .inl ⟨_, _, rfl, run_takeDeferred hK2, ?_⟩⟩
    refine ⟨.tuple #[.agg (sunC L ts), .int .i64 0], results_sun (fn := Tryd.f23) rfl _ _ b1 _ _ HL.out Ht.out rfl ((World.putObj_heap_other (Ne.symm hDb)).trans hR), congrArg (fun z => Ending.returned (.tuple #[.agg (sunC z ts), .int .i64 0])) HMM.out, ?_⟩
    exact (below_setRow hb (by omega) _).trans (belowK_b (w := w) (Nat.le_refl _) _ D _ _ hD' hK2 rfl rfl)
  case stop =>
    rintro D c pre W _ _ h _
    exact h.elim

set_option maxRecDepth 100000 in
set_option maxHeartbeats 4000000 in
theorem sBs_no (sv : Value) (trs : List Tr) (hwf : ∀ x ∈ trs, TrWf x) (hs ts : List Int) (hh : hs.length = 24) (ht : ts.length = 24) (rb : ∀ x ∈ hs ++ ts, -32768 ≤ x ∧ x ≤ 32767) (n : Nat) (hn : refN (okTs trs && okB hs ts) true true = n) (hne : (codeE n != 0) = true) (w : World) (hts : TreesAt w sv trs) :
    Calls Tryd.prog 22 #[sv, .agg (sunC hs ts)] w fun e w' => e = .returned (.tuple #[.agg (sunC zer zer), .int .i64 (codeE n)]) ∧ Below w.heap.size w w' := by
  have HSH := Lib.hid (fun g V h1 h2 => l04Shadow_is sv trs hwf hs ts hh ht rb true n hn g 37 (0, 0) V h1 h2)
  have HA := Lib.hid hts
  clear hts hwf hh ht hn
  generalize codeE n = c at *
  go_enter Tryd.func22, Tryd.ntmps22
  go_upto_region 1 with (fail)
  generalize he : w.heap.size + 1 = b1
  refine abs_world (fun W => W.heap[w.heap.size]? = some (.cells (sunC hs ts) 37 (0, 0)) ∧ W.heap[b1]? = some (.cells (sunC zer zer) 37 (0, 0)) ∧ Below w.heap.size w W) ⟨new2_fst _ _ _, he ▸ new2_snd _ _ _, new2_below _ _ _⟩ ?_
  have hlt : w.heap.size < b1 := by omega
  rintro W ⟨h0, h1, hb⟩
  have H0 := Lib.hid h0
  have H1 := Lib.hid h1
  replace HA := Lib.hid (trees_below HA.out hb)
  clear h0 h1 he
  go_wp2_with (first | (go_at_call 47; refine (HSH.out _ _ HA.out H0.out).mono ?_; rintro e W1 ⟨rfl, hb1⟩; replace H0 := Lib.hid (below_row hb1 H0.out); replace H1 := Lib.hid (below_row hb1 H1.out); replace HA := Lib.hid (trees_below HA.out hb1); replace hb := hb.trans (hb1.mono hb.size); clear hb1) | (refine wpList_store_part rfl 37 _ _ rfl b1 0 (sunC zer zer) rfl rfl 37 _ H1.out info_zz (by decide) (i16s_one _) ?_; rw [laid_all _ _ (by rfl)]))
  refine bodyPost_ret (results_sun rfl _ _ b1 zer zer rfl rfl rfl (setRow_heap _ _ _ _ _ _ H1.out)) rfl ?_
  exact ⟨rfl, below_setRow hb (by omega) _⟩

set_option maxRecDepth 100000 in
set_option maxHeartbeats 4000000 in
theorem sBs_yes (sv : Value) (trs : List Tr) (hwf : ∀ x ∈ trs, TrWf x) (hs ts : List Int) (hh : hs.length = 24) (ht : ts.length = 24) (rb : ∀ x ∈ hs ++ ts, -32768 ≤ x ∧ x ≤ 32767) (hn : refN (okTs trs && okB hs ts) true true = 0) (ho : okB hs ts = true) (w : World) (hts : TreesAt w sv trs) :
    Calls Tryd.prog 22 #[sv, .agg (sunC hs ts)] w fun e w' => e = .returned (.tuple #[.agg (sunC (bareL hs (fun k : Nat => trs.any (fun x => hidT hs ts x (k : Int))) 24) ts), .int .i64 0]) ∧ Below w.heap.size w w' := by
  have HSH := Lib.hid (fun g V h1 h2 => l04Shadow_is sv trs hwf hs ts hh ht rb true 0 hn g 37 (0, 0) V h1 h2)
  have HHD := Lib.hid (fun (k : Nat) (hk : k < 24) g V h1 h2 => l04Hidden_any sv trs hwf hs ts hh ht k hk _ _ rfl rfl (okB_h hh ht ho (k : Int) (by omega) (by omega)) (okB_t hh ht ho (k : Int) (by omega) (by omega)) g 37 V h1 h2)
  have Hh := Lib.hid hh
  have Ht := Lib.hid ht
  have HA := Lib.hid hts
  have HA0 := Lib.hid hts
  clear hts hwf hh ht hn ho
  obtain ⟨q, hq⟩ : ∃ q : Nat → Bool, q = fun k : Nat => trs.any (fun x => hidT hs ts x (k : Int)) := ⟨_, rfl⟩
  have HQ := Lib.hid (fun k : Nat => (congrFun hq k : q k = trs.any (fun x => hidT hs ts x (k : Int))))
  rw [← hq]
  clear hq
  go_enter Tryd.func22, Tryd.ntmps22
  go_upto_region 1 with (fail)
  generalize he : w.heap.size + 1 = b1
  refine abs_world (fun W => W.heap[w.heap.size]? = some (.cells (sunC hs ts) 37 (0, 0)) ∧ W.heap[b1]? = some (.cells (sunC zer zer) 37 (0, 0)) ∧ Below w.heap.size w W) ⟨new2_fst _ _ _, he ▸ new2_snd _ _ _, new2_below _ _ _⟩ ?_
  have hlt : w.heap.size < b1 := by omega
  rintro W ⟨h0, h1, hb⟩
  have H0 := Lib.hid h0
  have H1 := Lib.hid h1
  replace HA := Lib.hid (trees_below HA.out hb)
  clear h0 h1 he
  go_upto_region 5 with (first | (go_at_call 47; refine (HSH.out _ _ HA.out H0.out).mono ?_; rintro e W1 ⟨rfl, hb1⟩; replace H0 := Lib.hid (below_row hb1 H0.out); replace H1 := Lib.hid (below_row hb1 H1.out); replace HA := Lib.hid (trees_below HA.out hb1); replace hb := hb.trans (hb1.mono hb.size); clear hb1) | (refine wpList_load_part rfl 37 _ rfl w.heap.size 0 48 rfl 37 (sunC hs ts) (0, 0) _ H0.out Tryd.underlying37 rfl info_sun (sun_fits _ _ Hh.out Ht.out) _ (sun_all _ _ Hh.out Ht.out) ?_) | (refine wpList_store_part rfl 37 _ _ rfl _ 0 (sunC hs ts) rfl rfl 37 _ (heap_alloc_new _ _) (by rw [sunC_size _ _ Hh.out Ht.out]; exact info_sun) (by rw [sunC_size _ _ Hh.out Ht.out]; decide) (i16s_one _) ?_; rw [laid_all _ _ (by rw [sunC_size _ _ Hh.out Ht.out]; rfl)]))
  have hlt1 := row_lt H1.out
  refine abs_world (fun V => V.heap[w.heap.size]? = some (.cells (sunC hs ts) 37 (0, 0)) ∧ V.heap[b1]? = some (.cells (sunC zer zer) 37 (0, 0)) ∧ V.heap[W1.heap.size]? = some (.cells (sunC hs ts) 37 (0, 0)) ∧ Below w.heap.size w V) ⟨laid_old _ _ H0.out, laid_old _ _ H1.out, laid_new _ _ _, below_setRow (hb.alloc hb.size _) hb.size _⟩ ?_
  clear hb H0 H1 HA
  generalize W1.heap.size = b2 at *
  rintro V ⟨h0, h1, h2, hb⟩
  have H0 := Lib.hid h0
  have H1 := Lib.hid h1
  have H2 := Lib.hid h2
  clear h0 h1 h2
  go_wp2
  go_loopw [8] (fun i wr => ∃ (k : Nat) (a : List Int), k ≤ 24 ∧ i = .int .i64 (k : Int) ∧ a.length = 24 ∧ a = bareL hs q k ∧ wr.heap[w.heap.size]? = some (.cells (sunC hs ts) 37 (0, 0)) ∧ wr.heap[b1]? = some (.cells (sunC zer zer) 37 (0, 0)) ∧ wr.heap[b2]? = some (.cells (sunC a ts) 37 (0, 0)) ∧ Below w.heap.size w wr) (fun i _ => 24 - (intOf i).toNat)
  case atStart => exact ⟨0, hs, Nat.zero_le _, rfl, Hh.out, rfl, H0.out, H1.out, H2.out, hb⟩
  case round =>
    clear hb H0 H1 H2 V
    obtain ⟨k, a, hk, rfl, ha, hM, h0, h1, h2, hb⟩ := hrel
    have H0 := Lib.hid h0
    have H1 := Lib.hid h1
    have H2 := Lib.hid h2
    have HA := Lib.hid (trees_below HA0.out hb)
    have HL := Lib.hid ha
    by_cases hlt : k < 24
    · have z1 : (k : Int) < 24 := by omega
      have z2 : (0 : Int) ≤ (k : Int) := by omega
      have w1 : IntKind.i64.wrap (k : Int) = (k : Int) := by rw [IntWalk.i64_in _ (by omega)]
      have HM := Lib.hid hM
      have HHQ := HQ.out k
      clear h0 h1 h2 hM ha
      cases hqk : q k with
      | false =>
        rw [hqk] at HHQ
        have HQ2 := Lib.hid HHQ
        have HM2 := Lib.hid (HM.out.trans (bareL_miss (hs := hs) hqk).symm)
        clear HHQ hqk
        go_wp2_with (first | (go_at_call 48; refine (HHD.out k hlt _ _ HA.out H0.out).mono ?_; rw [← HQ2.out]; rintro e W2 ⟨rfl, hb1⟩; replace H0 := Lib.hid (below_row hb1 H0.out); replace H2 := Lib.hid (below_row hb1 H2.out); replace H1 := Lib.hid (below_row hb1 H1.out); replace HA := Lib.hid (trees_below HA.out hb1); replace hb := hb.trans (hb1.mono hb.size); clear hb1))
        refine ⟨⟨k + 1, a, by omega, by go_num, HL.out, HM2.out, H0.out, H1.out, H2.out, hb⟩, ?_⟩
        simp [intOf]; omega
      | true =>
        rw [hqk] at HHQ
        have HQ2 := Lib.hid HHQ
        have HM2 := Lib.hid (by rw [HM.out]; exact (bareL_hit (hs := hs) hqk).symm : a.set k 0 = bareL hs q (k + 1))
        clear HHQ hqk
        go_upto_region 9 with (first | (go_at_call 48; refine (HHD.out k hlt _ _ HA.out H0.out).mono ?_; rw [← HQ2.out]; rintro e W2 ⟨rfl, hb1⟩; replace H0 := Lib.hid (below_row hb1 H0.out); replace H2 := Lib.hid (below_row hb1 H2.out); replace H1 := Lib.hid (below_row hb1 H1.out); replace HA := Lib.hid (trees_below HA.out hb1); replace hb := hb.trans (hb1.mono hb.size); clear hb1))
        have c2 := cell_sun_h H2.out HL.out k hlt
        have f2 := frozen_of_row W2 b2 k _ _ H2.out
        go_wp2
        refine ⟨⟨k + 1, a.set k 0, by omega, by go_num, by simp [HL.out], HM2.out, (heap_setCell_other _ _ _ _ (by simp; omega)).trans H0.out, (heap_setCell_other _ _ _ _ (by simp; omega)).trans H1.out, sun_set_h H2.out k (by have := HL.out; omega) 0, hb.setCell (p := ⟨b2, k, none⟩) (by simp; omega) _⟩, ?_⟩
        simp [intOf]; omega
    · obtain rfl : k = 24 := by omega
      have HMM := Lib.hid hM
      generalize a = L at *
      clear h0 h1 h2 hM ha
      go_wp2_with (first | (refine wpList_load_part rfl 37 _ rfl b2 0 48 rfl 37 (sunC L ts) (0, 0) _ H2.out Tryd.underlying37 rfl info_sun (sun_fits _ _ HL.out Ht.out) (sunC L ts) (sun_all _ _ HL.out Ht.out) ?_) | (refine wpList_store_part rfl 37 _ _ rfl b1 0 (sunC L ts) rfl rfl 37 _ H1.out (by rw [sunC_size _ _ HL.out Ht.out]; exact info_sun) (by rw [sunC_size _ _ HL.out Ht.out]; decide) (i16s_one _) ?_; rw [laid_all _ _ (by rw [sunC_size _ _ HL.out Ht.out]; rfl)]))
      refine bodyPost_ret (results_sun rfl _ _ b1 _ _ HL.out Ht.out rfl (setRow_heap _ _ _ _ _ _ H1.out)) rfl ?_
      exact ⟨congrArg (fun z => Ending.returned (.tuple #[.agg (sunC z ts), .int .i64 0])) HMM.out, below_setRow hb (by omega) _⟩

end Go.Proofs.YtpcmcopfdghdgaaDoor

namespace Go.Proofs.YtpcmcopfdghdgaaDoor
open Go.ChangeShapes Go.WideShapes Go.ChangeAt Go.RowKit Go.Deep Go.Joins

attribute [local go_sem] run_store_f

theorem laid_allY (cs vs : Array Value) (h : cs.size = vs.size) : laid cs vs 0 = vs := by
  apply Array.ext'
  simp [laid]
  rw [← h]; simp

theorem run_store_rowY {P : Program} (w : World) (g : Nat) (t : TypeId) (vs old : Array Value) (hg : w.heap[g]? = some (.cells old t (0, 0))) (hs : old.size = vs.size) (h1 : ∀ v ∈ vs, v.oneCell' = true) :
    (storeCells ⟨g, 0, none⟩ vs.toList).run P w = .ok () (w.setRow g vs) := by
  have hst := run_storeCells_at P g 0 t vs.toList 0 old w hg (by simp; omega) (fun v hv => h1 v (by simpa using hv))
  have hl := laid_allY old vs hs
  unfold laid at hl
  simp only [Nat.add_zero] at hst
  rw [hst]
  simp at hl ⊢
  rw [hl]

set_option maxRecDepth 100000 in
set_option maxHeartbeats 8000000 in
theorem lawBareSun_core (sv : Value) (trs : List Tr) (hs ts : List Int) (hh : hs.length = 24) (ht : ts.length = 24) (hr tr : List Int) (hhr : hr.length = 24) (htr : tr.length = 24) (v1 : Int) (e0 e1 e2 e3 : Addr)
    (hS : ∀ (d : Value) (W : World), TreesAt W d trs → Calls Tryd.prog 22 #[d, .agg (sunC hs ts)] W fun e w' => e = .returned (.tuple #[.agg (sunC hr tr), .int .i64 v1]) ∧ Below W.heap.size W w')
    (hI : ∀ (d : Value) (W : World), TreesAt W d trs → ErrsAt W e0 e1 e2 e3 → Calls Tryd.prog 23 #[d, .agg (sunC hs ts)] W fun e w' => e = .returned (.tuple #[.agg (sunC hr tr), .int .i64 v1]) ∧ Below W.heap.size W w')
    (w : World) (hts : TreesAt w sv trs) (hE : ErrsAt w e0 e1 e2 e3) :
    Calls Tryd.prog 6 #[sv, .agg (sunC hs ts)] w fun e w' => e = .returned (.bool true) ∧ Below w.heap.size w w' := by
  have HA := Lib.hid hts
  have HX := Lib.hid hE
  have HS := Lib.hid hS
  have HI := Lib.hid hI
  have Hh := Lib.hid hh
  have Ht := Lib.hid ht
  have Hr := Lib.hid hhr
  have Tr := Lib.hid htr
  have zc : (v1 != v1) = false := by simp
  have hdv := hts
  obtain ⟨d0, dcap, edv, hm1, hm2, _⟩ := hdv
  unfold maxLen at hm2
  have HZ := Lib.hid (fun w => szTreeS_any d0 trs.length dcap 1048576 (by omega) (by decide) (by decide) w)
  rw [← edv] at HZ
  have hlr : (leftI trs.length 1048576 < 0 ∧ 1048576 < trs.length) ∨ (0 ≤ leftI trs.length 1048576 ∧ trs.length ≤ 1048576) := by unfold leftI; split <;> omega
  clear hts edv hm1 hm2 hE hS hI hh ht hhr htr
  generalize leftI (trs.length : Int) 1048576 = lf at *
  go_enter Tryd.func6, Tryd.ntmps6
  go_upto_region 1 with (fail)
  refine abs_world (fun W => W.heap[w.heap.size]? = some (.cells (sunC hs ts) 29 (0, 0)) ∧ Below w.heap.size w W) ⟨heap_alloc_new _ _, (Below.refl _ _).alloc (Nat.le_refl _) _⟩ ?_
  rintro W ⟨h0, hb⟩
  have H0 := Lib.hid h0
  replace HA := Lib.hid (trees_below HA.out hb)
  replace HX := Lib.hid (errs_below HX.out hb)
  clear h0
  rcases hlr with ⟨hlf, _⟩ | ⟨hlf, hlen⟩
  · go_wp2_with (go_at_call 15; refine (HZ.out _).mono ?_; rintro e W1 ⟨rfl, rfl⟩)
    go_ret
    exact ⟨rfl, hb⟩
  · go_upto_region 5 with (go_at_call 15; refine (HZ.out _).mono ?_; rintro e W1 ⟨rfl, rfl⟩)
    go_cut [6, 7] (fun sb sc wx => ∃ bb : Nat, sb = .pointer (some ⟨bb, 0, none⟩) ∧ sc = .int .i64 v1 ∧ W.heap.size ≤ bb ∧ wx.heap[bb]? = some (.cells (sunC hr tr) 37 (0, 0)) ∧ Below W.heap.size W wx)
    case first =>
      refine wp_region_held_drew (S := (fun V => Below W.heap.size W V)) (by kernel_rfl) ((Below.refl _ _).drew) (fun hHeld => ?_)
      generalize W.drew = Y0 at *
      refine take_op (i := 0) (d := 17) (v := ?_) rfl rfl (by kernel_rfl) (by kernel_rfl) (by kernel_rfl) (fun _ _ _ h => h) (Or.inl ⟨by rfl, ?hy0y80⟩) hHeld ?rest0y80
      case hy0y80 =>
        intro w' hS'
        go_simp
        try with_reducible rfl
      simp only [List.setIfInBounds_toArray, List.set_cons_zero, List.set_cons_succ]
      refine take_op (i := 2) (d := 19) (v := .agg (sunC hs ts)) rfl rfl (by kernel_rfl) (by kernel_rfl) (by kernel_rfl) (fun _ _ _ h => h) (yields_row (by rfl) 29 (.tmp 3) (by rfl) w.heap.size 0 48 (by rfl) 29 (sunC hs ts) (0, 0) _ (fun _ h => below_row h H0.out) Tryd.underlying29 rfl info_sunL (sun_fits _ _ Hh.out Ht.out) (sunC hs ts) (sun_all _ _ Hh.out Ht.out)) hHeld ?_
      simp only [List.setIfInBounds_toArray, List.set_cons_zero, List.set_cons_succ]
      refine wpAnyH_ready (rs := [1, 8]) (by kernel_rfl) (by simp) ?_
      refine AllReadyH.cons rfl (fun K hK => ?_) (AllReadyH.cons rfl (fun K hK => ?_) AllReadyH.nil)
      · go_simp
        refine (toTreeS_any sv trs hlen _ (trees_below HA.out hHeld)).mono ?_
        rintro e Zy1 ⟨⟨v3, rfl, hv3⟩, hb1⟩
        have HV3 := Lib.hid (ownT_at hv3)
        clear hv3
        refine hK.out _ _ (hHeld.trans (hb1.mono hHeld.size)) (fun hHeld2 => ?_)
        clear hK K
        replace hHeld := hHeld2
        clear hHeld2
        clear hb1
        refine wpAnyH_ready (rs := [3, 8]) (by kernel_rfl) (by simp) ?_
        refine AllReadyH.cons rfl (fun K hK => ?_) (AllReadyH.cons rfl (fun K hK => ?_) AllReadyH.nil)
        · go_simp
          refine (toSun_any hs ts Hh.out Ht.out _).mono ?_
          rintro e Zy2 ⟨rfl, hb1⟩
          replace HV3 := Lib.hid (trees_below HV3.out hb1)
          refine hK.out _ _ (hHeld.trans (hb1.mono hHeld.size)) (fun hHeld2 => ?_)
          clear hK K
          replace hHeld := hHeld2
          clear hHeld2
          clear hb1
          refine wpAnyH_ready (rs := [4, 8]) (by kernel_rfl) (by simp) ?_
          refine AllReadyH.cons rfl (fun K hK => ?_) (AllReadyH.cons rfl (fun K hK => ?_) AllReadyH.nil)
          · go_simp
            refine (HS.out _ _ HV3.out).mono ?_
            rintro e Zy3 ⟨rfl, hb1⟩
            replace HV3 := Lib.hid (trees_below HV3.out hb1)
            refine hK.out _ _ (hHeld.trans (hb1.mono hHeld.size)) (fun hHeld2 => ?_)
            clear hK K
            replace hHeld := hHeld2
            clear hHeld2
            clear hb1
            clear HV3
            refine take_op (i := 5) (d := 16) (v := ?_) rfl rfl (by kernel_rfl) (by kernel_rfl) (by kernel_rfl) (fun _ _ _ h => h) (Or.inl ⟨by rfl, ?hy5y81⟩) hHeld ?rest5y81
            case hy5y81 =>
              intro w' hS'
              go_simp
              try with_reducible rfl
            simp only [List.setIfInBounds_toArray, List.set_cons_zero, List.set_cons_succ]
            refine take_op (i := 6) (d := 22) (v := ?_) rfl rfl (by kernel_rfl) (by kernel_rfl) (by kernel_rfl) (fun _ _ _ h => h) (Or.inl ⟨by rfl, ?hy6y82⟩) hHeld ?rest6y82
            case hy6y82 =>
              intro w' hS'
              go_simp
              try with_reducible rfl
            simp only [List.setIfInBounds_toArray, List.set_cons_zero, List.set_cons_succ]
            refine take_op (i := 7) (d := 23) (v := ?_) rfl rfl (by kernel_rfl) (by kernel_rfl) (by kernel_rfl) (fun _ _ _ h => h) (Or.inl ⟨by rfl, ?hy7y83⟩) hHeld ?rest7y83
            case hy7y83 =>
              intro w' hS'
              go_simp
              try with_reducible rfl
            simp only [List.setIfInBounds_toArray, List.set_cons_zero, List.set_cons_succ]
            refine wpAnyH_ready (rs := [8]) (by kernel_rfl) (by simp) ?_
            refine AllReadyH.cons rfl (fun K hK => ?_) AllReadyH.nil
            go_simp
            obtain ⟨bb, hbq⟩ : ∃ bb, bb = Zy3.heap.size := ⟨_, rfl⟩
            rw [← hbq]
            refine hK.out _ (Zy3.alloc (.cells (sunC zer zer) 37 (0, 0))) (hHeld.alloc hHeld.size _) (fun hHeld2 => ?_)
            have HB : Hid ((Zy3.alloc (.cells (sunC zer zer) 37 (0, 0))).heap[bb]? = some (.cells (sunC zer zer) 37 (0, 0))) := Lib.hid (by rw [hbq]; exact heap_alloc_new _ _)
            have hbb : W.heap.size ≤ bb := by rw [hbq]; exact hHeld.size
            clear hK K hHeld hbq
            have hHeld := hHeld2
            clear hHeld2
            generalize (Zy3.alloc (.cells (sunC zer zer) 37 (0, 0))) = Zy4 at *
            have hs48 : (sunC hr tr).size = 48 := by rw [sunC_size _ _ Hr.out Tr.out]
            have hst := run_store_rowY (P := Tryd.prog) _ bb 37 (sunC hr tr) _ HB.out (by rw [sunC_size _ _ Hr.out Tr.out]; rfl) (i16s_one _)
            refine wpAnyH_ready (rs := [9]) (by kernel_rfl) (by simp) ?_
            refine AllReadyH.cons rfl (fun K hK => ?_) AllReadyH.nil
            go_simp
            refine hK.out _ _ (below_setRow hHeld hbb _) (fun hHeld2 => ?_)
            clear hK K hst hs48
            have HB2 := Lib.hid (setRow_heap _ _ _ (sunC hr tr) _ _ HB.out)
            clear hHeld HB
            have hHeld := hHeld2
            clear hHeld2
            refine take_op (i := 10) (d := 7) (v := ?_) rfl rfl (by kernel_rfl) (by kernel_rfl) (by kernel_rfl) (fun _ _ _ h => h) (Or.inl ⟨by rfl, ?hy10y84⟩) hHeld ?rest10y84
            case hy10y84 =>
              intro w' hS'
              go_simp
              try with_reducible rfl
            refine wpAnyH_done (by kernel_rfl) ?_ _
            go_wp2
            go_meet
            case rel => exact ⟨bb, rfl, rfl, hbb, HB2.out, hHeld⟩
          · go_simp
            obtain ⟨bb, hbq⟩ : ∃ bb, bb = Zy2.heap.size := ⟨_, rfl⟩
            replace HV3 := Lib.hid (trees_below HV3.out ((Below.refl Zy2.heap.size Zy2).alloc (Nat.le_refl _) (.cells (sunC zer zer) 37 (0, 0))))
            rw [← hbq]
            refine hK.out _ (Zy2.alloc (.cells (sunC zer zer) 37 (0, 0))) (hHeld.alloc hHeld.size _) (fun hHeld2 => ?_)
            have HB : Hid ((Zy2.alloc (.cells (sunC zer zer) 37 (0, 0))).heap[bb]? = some (.cells (sunC zer zer) 37 (0, 0))) := Lib.hid (by rw [hbq]; exact heap_alloc_new _ _)
            have hbb : W.heap.size ≤ bb := by rw [hbq]; exact hHeld.size
            clear hK K hHeld hbq
            have hHeld := hHeld2
            clear hHeld2
            generalize (Zy2.alloc (.cells (sunC zer zer) 37 (0, 0))) = Zy5 at *
            refine wpAnyH_ready (rs := [4]) (by kernel_rfl) (by simp) ?_
            refine AllReadyH.cons rfl (fun K hK => ?_) AllReadyH.nil
            go_simp
            refine (HS.out _ _ HV3.out).mono ?_
            rintro e Zy6 ⟨rfl, hb1⟩
            replace HV3 := Lib.hid (trees_below HV3.out hb1)
            refine hK.out _ _ (hHeld.trans (hb1.mono hHeld.size)) (fun hHeld2 => ?_)
            clear hK K
            replace hHeld := hHeld2
            clear hHeld2
            replace HB := Lib.hid (below_row hb1 HB.out)
            clear hb1
            clear HV3
            refine take_op (i := 5) (d := 16) (v := ?_) rfl rfl (by kernel_rfl) (by kernel_rfl) (by kernel_rfl) (fun _ _ _ h => h) (Or.inl ⟨by rfl, ?hy5y85⟩) hHeld ?rest5y85
            case hy5y85 =>
              intro w' hS'
              go_simp
              try with_reducible rfl
            simp only [List.setIfInBounds_toArray, List.set_cons_zero, List.set_cons_succ]
            refine take_op (i := 6) (d := 22) (v := ?_) rfl rfl (by kernel_rfl) (by kernel_rfl) (by kernel_rfl) (fun _ _ _ h => h) (Or.inl ⟨by rfl, ?hy6y86⟩) hHeld ?rest6y86
            case hy6y86 =>
              intro w' hS'
              go_simp
              try with_reducible rfl
            simp only [List.setIfInBounds_toArray, List.set_cons_zero, List.set_cons_succ]
            refine take_op (i := 7) (d := 23) (v := ?_) rfl rfl (by kernel_rfl) (by kernel_rfl) (by kernel_rfl) (fun _ _ _ h => h) (Or.inl ⟨by rfl, ?hy7y87⟩) hHeld ?rest7y87
            case hy7y87 =>
              intro w' hS'
              go_simp
              try with_reducible rfl
            simp only [List.setIfInBounds_toArray, List.set_cons_zero, List.set_cons_succ]
            have hs48 : (sunC hr tr).size = 48 := by rw [sunC_size _ _ Hr.out Tr.out]
            have hst := run_store_rowY (P := Tryd.prog) _ bb 37 (sunC hr tr) _ HB.out (by rw [sunC_size _ _ Hr.out Tr.out]; rfl) (i16s_one _)
            refine wpAnyH_ready (rs := [9]) (by kernel_rfl) (by simp) ?_
            refine AllReadyH.cons rfl (fun K hK => ?_) AllReadyH.nil
            go_simp
            refine hK.out _ _ (below_setRow hHeld hbb _) (fun hHeld2 => ?_)
            clear hK K hst hs48
            have HB2 := Lib.hid (setRow_heap _ _ _ (sunC hr tr) _ _ HB.out)
            clear hHeld HB
            have hHeld := hHeld2
            clear hHeld2
            refine take_op (i := 10) (d := 7) (v := ?_) rfl rfl (by kernel_rfl) (by kernel_rfl) (by kernel_rfl) (fun _ _ _ h => h) (Or.inl ⟨by rfl, ?hy10y88⟩) hHeld ?rest10y88
            case hy10y88 =>
              intro w' hS'
              go_simp
              try with_reducible rfl
            refine wpAnyH_done (by kernel_rfl) ?_ _
            go_wp2
            go_meet
            case rel => exact ⟨bb, rfl, rfl, hbb, HB2.out, hHeld⟩
        · go_simp
          obtain ⟨bb, hbq⟩ : ∃ bb, bb = Zy1.heap.size := ⟨_, rfl⟩
          replace HV3 := Lib.hid (trees_below HV3.out ((Below.refl Zy1.heap.size Zy1).alloc (Nat.le_refl _) (.cells (sunC zer zer) 37 (0, 0))))
          rw [← hbq]
          refine hK.out _ (Zy1.alloc (.cells (sunC zer zer) 37 (0, 0))) (hHeld.alloc hHeld.size _) (fun hHeld2 => ?_)
          have HB : Hid ((Zy1.alloc (.cells (sunC zer zer) 37 (0, 0))).heap[bb]? = some (.cells (sunC zer zer) 37 (0, 0))) := Lib.hid (by rw [hbq]; exact heap_alloc_new _ _)
          have hbb : W.heap.size ≤ bb := by rw [hbq]; exact hHeld.size
          clear hK K hHeld hbq
          have hHeld := hHeld2
          clear hHeld2
          generalize (Zy1.alloc (.cells (sunC zer zer) 37 (0, 0))) = Zy7 at *
          refine wpAnyH_ready (rs := [3]) (by kernel_rfl) (by simp) ?_
          refine AllReadyH.cons rfl (fun K hK => ?_) AllReadyH.nil
          go_simp
          refine (toSun_any hs ts Hh.out Ht.out _).mono ?_
          rintro e Zy8 ⟨rfl, hb1⟩
          replace HV3 := Lib.hid (trees_below HV3.out hb1)
          refine hK.out _ _ (hHeld.trans (hb1.mono hHeld.size)) (fun hHeld2 => ?_)
          clear hK K
          replace hHeld := hHeld2
          clear hHeld2
          replace HB := Lib.hid (below_row hb1 HB.out)
          clear hb1
          refine wpAnyH_ready (rs := [4]) (by kernel_rfl) (by simp) ?_
          refine AllReadyH.cons rfl (fun K hK => ?_) AllReadyH.nil
          go_simp
          refine (HS.out _ _ HV3.out).mono ?_
          rintro e Zy9 ⟨rfl, hb1⟩
          replace HV3 := Lib.hid (trees_below HV3.out hb1)
          refine hK.out _ _ (hHeld.trans (hb1.mono hHeld.size)) (fun hHeld2 => ?_)
          clear hK K
          replace hHeld := hHeld2
          clear hHeld2
          replace HB := Lib.hid (below_row hb1 HB.out)
          clear hb1
          clear HV3
          refine take_op (i := 5) (d := 16) (v := ?_) rfl rfl (by kernel_rfl) (by kernel_rfl) (by kernel_rfl) (fun _ _ _ h => h) (Or.inl ⟨by rfl, ?hy5y89⟩) hHeld ?rest5y89
          case hy5y89 =>
            intro w' hS'
            go_simp
            try with_reducible rfl
          simp only [List.setIfInBounds_toArray, List.set_cons_zero, List.set_cons_succ]
          refine take_op (i := 6) (d := 22) (v := ?_) rfl rfl (by kernel_rfl) (by kernel_rfl) (by kernel_rfl) (fun _ _ _ h => h) (Or.inl ⟨by rfl, ?hy6y90⟩) hHeld ?rest6y90
          case hy6y90 =>
            intro w' hS'
            go_simp
            try with_reducible rfl
          simp only [List.setIfInBounds_toArray, List.set_cons_zero, List.set_cons_succ]
          refine take_op (i := 7) (d := 23) (v := ?_) rfl rfl (by kernel_rfl) (by kernel_rfl) (by kernel_rfl) (fun _ _ _ h => h) (Or.inl ⟨by rfl, ?hy7y91⟩) hHeld ?rest7y91
          case hy7y91 =>
            intro w' hS'
            go_simp
            try with_reducible rfl
          simp only [List.setIfInBounds_toArray, List.set_cons_zero, List.set_cons_succ]
          have hs48 : (sunC hr tr).size = 48 := by rw [sunC_size _ _ Hr.out Tr.out]
          have hst := run_store_rowY (P := Tryd.prog) _ bb 37 (sunC hr tr) _ HB.out (by rw [sunC_size _ _ Hr.out Tr.out]; rfl) (i16s_one _)
          refine wpAnyH_ready (rs := [9]) (by kernel_rfl) (by simp) ?_
          refine AllReadyH.cons rfl (fun K hK => ?_) AllReadyH.nil
          go_simp
          refine hK.out _ _ (below_setRow hHeld hbb _) (fun hHeld2 => ?_)
          clear hK K hst hs48
          have HB2 := Lib.hid (setRow_heap _ _ _ (sunC hr tr) _ _ HB.out)
          clear hHeld HB
          have hHeld := hHeld2
          clear hHeld2
          refine take_op (i := 10) (d := 7) (v := ?_) rfl rfl (by kernel_rfl) (by kernel_rfl) (by kernel_rfl) (fun _ _ _ h => h) (Or.inl ⟨by rfl, ?hy10y92⟩) hHeld ?rest10y92
          case hy10y92 =>
            intro w' hS'
            go_simp
            try with_reducible rfl
          refine wpAnyH_done (by kernel_rfl) ?_ _
          go_wp2
          go_meet
          case rel => exact ⟨bb, rfl, rfl, hbb, HB2.out, hHeld⟩
      · go_simp
        obtain ⟨bb, hbq⟩ : ∃ bb, bb = Y0.heap.size := ⟨_, rfl⟩
        rw [← hbq]
        refine hK.out _ (Y0.alloc (.cells (sunC zer zer) 37 (0, 0))) (hHeld.alloc hHeld.size _) (fun hHeld2 => ?_)
        have HB : Hid ((Y0.alloc (.cells (sunC zer zer) 37 (0, 0))).heap[bb]? = some (.cells (sunC zer zer) 37 (0, 0))) := Lib.hid (by rw [hbq]; exact heap_alloc_new _ _)
        have hbb : W.heap.size ≤ bb := by rw [hbq]; exact hHeld.size
        clear hK K hHeld hbq
        have hHeld := hHeld2
        clear hHeld2
        generalize (Y0.alloc (.cells (sunC zer zer) 37 (0, 0))) = Zy10 at *
        refine wpAnyH_ready (rs := [1]) (by kernel_rfl) (by simp) ?_
        refine AllReadyH.cons rfl (fun K hK => ?_) AllReadyH.nil
        go_simp
        refine (toTreeS_any sv trs hlen _ (trees_below HA.out hHeld)).mono ?_
        rintro e Zy11 ⟨⟨v3, rfl, hv3⟩, hb1⟩
        have HV3 := Lib.hid (ownT_at hv3)
        clear hv3
        refine hK.out _ _ (hHeld.trans (hb1.mono hHeld.size)) (fun hHeld2 => ?_)
        clear hK K
        replace hHeld := hHeld2
        clear hHeld2
        replace HB := Lib.hid (below_row hb1 HB.out)
        clear hb1
        refine wpAnyH_ready (rs := [3]) (by kernel_rfl) (by simp) ?_
        refine AllReadyH.cons rfl (fun K hK => ?_) AllReadyH.nil
        go_simp
        refine (toSun_any hs ts Hh.out Ht.out _).mono ?_
        rintro e Zy12 ⟨rfl, hb1⟩
        replace HV3 := Lib.hid (trees_below HV3.out hb1)
        refine hK.out _ _ (hHeld.trans (hb1.mono hHeld.size)) (fun hHeld2 => ?_)
        clear hK K
        replace hHeld := hHeld2
        clear hHeld2
        replace HB := Lib.hid (below_row hb1 HB.out)
        clear hb1
        refine wpAnyH_ready (rs := [4]) (by kernel_rfl) (by simp) ?_
        refine AllReadyH.cons rfl (fun K hK => ?_) AllReadyH.nil
        go_simp
        refine (HS.out _ _ HV3.out).mono ?_
        rintro e Zy13 ⟨rfl, hb1⟩
        replace HV3 := Lib.hid (trees_below HV3.out hb1)
        refine hK.out _ _ (hHeld.trans (hb1.mono hHeld.size)) (fun hHeld2 => ?_)
        clear hK K
        replace hHeld := hHeld2
        clear hHeld2
        replace HB := Lib.hid (below_row hb1 HB.out)
        clear hb1
        clear HV3
        refine take_op (i := 5) (d := 16) (v := ?_) rfl rfl (by kernel_rfl) (by kernel_rfl) (by kernel_rfl) (fun _ _ _ h => h) (Or.inl ⟨by rfl, ?hy5y93⟩) hHeld ?rest5y93
        case hy5y93 =>
          intro w' hS'
          go_simp
          try with_reducible rfl
        simp only [List.setIfInBounds_toArray, List.set_cons_zero, List.set_cons_succ]
        refine take_op (i := 6) (d := 22) (v := ?_) rfl rfl (by kernel_rfl) (by kernel_rfl) (by kernel_rfl) (fun _ _ _ h => h) (Or.inl ⟨by rfl, ?hy6y94⟩) hHeld ?rest6y94
        case hy6y94 =>
          intro w' hS'
          go_simp
          try with_reducible rfl
        simp only [List.setIfInBounds_toArray, List.set_cons_zero, List.set_cons_succ]
        refine take_op (i := 7) (d := 23) (v := ?_) rfl rfl (by kernel_rfl) (by kernel_rfl) (by kernel_rfl) (fun _ _ _ h => h) (Or.inl ⟨by rfl, ?hy7y95⟩) hHeld ?rest7y95
        case hy7y95 =>
          intro w' hS'
          go_simp
          try with_reducible rfl
        simp only [List.setIfInBounds_toArray, List.set_cons_zero, List.set_cons_succ]
        have hs48 : (sunC hr tr).size = 48 := by rw [sunC_size _ _ Hr.out Tr.out]
        have hst := run_store_rowY (P := Tryd.prog) _ bb 37 (sunC hr tr) _ HB.out (by rw [sunC_size _ _ Hr.out Tr.out]; rfl) (i16s_one _)
        refine wpAnyH_ready (rs := [9]) (by kernel_rfl) (by simp) ?_
        refine AllReadyH.cons rfl (fun K hK => ?_) AllReadyH.nil
        go_simp
        refine hK.out _ _ (below_setRow hHeld hbb _) (fun hHeld2 => ?_)
        clear hK K hst hs48
        have HB2 := Lib.hid (setRow_heap _ _ _ (sunC hr tr) _ _ HB.out)
        clear hHeld HB
        have hHeld := hHeld2
        clear hHeld2
        refine take_op (i := 10) (d := 7) (v := ?_) rfl rfl (by kernel_rfl) (by kernel_rfl) (by kernel_rfl) (fun _ _ _ h => h) (Or.inl ⟨by rfl, ?hy10y96⟩) hHeld ?rest10y96
        case hy10y96 =>
          intro w' hS'
          go_simp
          try with_reducible rfl
        refine wpAnyH_done (by kernel_rfl) ?_ _
        go_wp2
        go_meet
        case rel => exact ⟨bb, rfl, rfl, hbb, HB2.out, hHeld⟩
    case rest =>
      obtain ⟨b6, rfl, rfl, hl6, hr6, hcb⟩ := hcut
      have R6 := Lib.hid hr6
      replace H0 := Lib.hid (below_row hcb H0.out)
      replace HA := Lib.hid (trees_below HA.out hcb)
      replace HX := Lib.hid (errs_below HX.out hcb)
      replace hb := hb.trans (hcb.mono hb.size)
      clear hcb hr6 HZ HS
      go_upto_region 7 with (go_at_call 17; refine (toTreeS_any sv trs hlen _ HA.out).mono ?_; rintro e W3 ⟨⟨v6, rfl, hv⟩, hb1⟩; have HV6 := Lib.hid (ownT_at hv); clear hv; replace H0 := Lib.hid (below_row hb1 H0.out); replace HA := Lib.hid (trees_below HA.out hb1); replace HX := Lib.hid (errs_below HX.out hb1); replace R6 := Lib.hid (below_row hb1 R6.out); replace hb := hb.trans (hb1.mono hb.size); clear hb1)
      go_upto_region 8 with (first | (refine wpList_load_part rfl 29 _ rfl w.heap.size 0 48 rfl 29 (sunC hs ts) (0, 0) _ H0.out Tryd.underlying29 rfl info_sunL (sun_fits _ _ Hh.out Ht.out) _ (sun_all _ _ Hh.out Ht.out) ?_) | (go_at_call 10; refine (toSun_any hs ts Hh.out Ht.out _).mono ?_; rintro e W4 ⟨rfl, hb1⟩; replace H0 := Lib.hid (below_row hb1 H0.out); replace HA := Lib.hid (trees_below HA.out hb1); replace HX := Lib.hid (errs_below HX.out hb1); replace HV6 := Lib.hid (trees_below HV6.out hb1); replace R6 := Lib.hid (below_row hb1 R6.out); replace hb := hb.trans (hb1.mono hb.size); clear hb1) | (go_at_call 23; refine (HI.out _ _ HV6.out HX.out).mono ?_; rintro e W5 ⟨rfl, hb1⟩; replace H0 := Lib.hid (below_row hb1 H0.out); replace HA := Lib.hid (trees_below HA.out hb1); replace HX := Lib.hid (errs_below HX.out hb1); replace HV6 := Lib.hid (trees_below HV6.out hb1); replace R6 := Lib.hid (below_row hb1 R6.out); replace hb := hb.trans (hb1.mono hb.size); clear hb1) | (refine wpList_store_part rfl 37 _ _ rfl _ 0 (sunC hr tr) rfl rfl 37 _ (heap_alloc_new _ _) (by rw [sunC_size _ _ Hr.out Tr.out]; exact info_sun) (by rw [sunC_size _ _ Hr.out Tr.out]; decide) (i16s_one _) ?_; rw [laid_all _ _ (by rw [sunC_size _ _ Hr.out Tr.out]; rfl)]))
      have hl5 := row_lt R6.out
      refine abs_world (fun X => X.heap[w.heap.size]? = some (.cells (sunC hs ts) 29 (0, 0)) ∧ X.heap[b6]? = some (.cells (sunC hr tr) 37 (0, 0)) ∧ X.heap[W5.heap.size]? = some (.cells (sunC hr tr) 37 (0, 0)) ∧ TreesAt X sv trs ∧ TreesAt X v6 trs ∧ ErrsAt X e0 e1 e2 e3 ∧ Below w.heap.size w X) ⟨below_row (rwT _ _ _) H0.out, below_row (rwT _ _ _) R6.out, setRow_heap _ _ _ _ _ _ (heap_alloc_new _ _), trees_below HA.out (rwT _ _ _), trees_below HV6.out (rwT _ _ _), errs_below HX.out (rwT _ _ _), hb.trans ((rwT _ _ _).mono hb.size)⟩ ?_
      clear H0 R6 HA HV6 HX hb HI
      generalize W5.heap.size = b9 at *
      rintro X ⟨h0, h6, h9, ha, hv6, hx, hb⟩
      have H0 := Lib.hid h0
      have R6 := Lib.hid h6
      have R9 := Lib.hid h9
      have HA := Lib.hid ha
      have HV6 := Lib.hid hv6
      have HX := Lib.hid hx
      clear h0 h6 h9 ha hv6 hx
      go_wp2_with (first | (refine wpList_load_part rfl 37 _ rfl b9 0 48 rfl 37 (sunC hr tr) (0, 0) _ R9.out Tryd.underlying37 rfl info_sun (sun_fits _ _ Hr.out Tr.out) _ (sun_all _ _ Hr.out Tr.out) ?_) | (refine wpList_load_part rfl 37 _ rfl b6 0 48 rfl 37 (sunC hr tr) (0, 0) _ R6.out Tryd.underlying37 rfl info_sun (sun_fits _ _ Hr.out Tr.out) _ (sun_all _ _ Hr.out Tr.out) ?_) | (go_at_call 24; refine (eqSun_same hr tr Hr.out Tr.out _).mono ?_; rintro e W8 ⟨rfl, hb1⟩; replace H0 := Lib.hid (below_row hb1 H0.out); replace HA := Lib.hid (trees_below HA.out hb1); replace HX := Lib.hid (errs_below HX.out hb1); replace HV6 := Lib.hid (trees_below HV6.out hb1); replace R6 := Lib.hid (below_row hb1 R6.out); replace R9 := Lib.hid (below_row hb1 R9.out); replace hb := hb.trans (hb1.mono hb.size); clear hb1) | (go_at_call 17; refine (toTreeS_any sv trs hlen _ HA.out).mono ?_; rintro e W3 ⟨⟨v7, rfl, hv⟩, hb1⟩; have HV7 := Lib.hid (ownT_at hv); clear hv; replace H0 := Lib.hid (below_row hb1 H0.out); replace HA := Lib.hid (trees_below HA.out hb1); replace HX := Lib.hid (errs_below HX.out hb1); replace HV6 := Lib.hid (trees_below HV6.out hb1); replace hb := hb.trans (hb1.mono hb.size); clear hb1) | (go_at_call 19; refine (eqTreeS_any v6 v7 trs _ HV6.out HV7.out).mono ?_; rintro e W9 ⟨rfl, hb1⟩; replace hb := hb.trans (hb1.mono hb.size); clear hb1))
      go_ret
      exact ⟨rfl, hb⟩

theorem FnExactBareSun_walk (sv : Value) (trs : List Tr) (hwf : ∀ x ∈ trs, TrWf x) (hs ts : List Int) (hh : hs.length = 24) (ht : ts.length = 24) (rb : ∀ x ∈ hs ++ ts, -32768 ≤ x ∧ x ≤ 32767) (w : World) (hts : TreesAt w sv trs) {e0 e1 e2 e3 : Addr} (hE : ErrsAt w e0 e1 e2 e3) :
    Calls Tryd.prog 6 #[sv, .agg (sunC hs ts)] w fun e w' => e = .returned (.bool true) ∧ Below w.heap.size w w' := by
  by_cases hc : (okTs trs && okB hs ts) = true
  · have ho : okB hs ts = true := by simp at hc; exact hc.2
    have hn : refN (okTs trs && okB hs ts) true true = 0 := by rw [hc]; rfl
    exact lawBareSun_core sv trs hs ts hh ht _ _ ((bareL_len _ _ _).trans hh) ht 0 e0 e1 e2 e3 (fun d W h => sBs_yes d trs hwf hs ts hh ht rb hn ho W h) (fun d W h k => iBs_yes d trs hwf hs ts hh ht e0 e1 e2 e3 hn ho W h k) w hts hE
  · have hne := refN_ne (v := okTs trs && okB hs ts) (r := true) (f := true) (fun h => hc h.1)
    exact lawBareSun_core sv trs hs ts hh ht zer zer rfl rfl _ e0 e1 e2 e3 (fun d W h => sBs_no d trs hwf hs ts hh ht rb _ rfl hne W h) (fun d W h k => iBs_no d trs hwf hs ts hh ht e0 e1 e2 e3 _ rfl hne W h k) w hts hE

end Go.Proofs.YtpcmcopfdghdgaaDoor
