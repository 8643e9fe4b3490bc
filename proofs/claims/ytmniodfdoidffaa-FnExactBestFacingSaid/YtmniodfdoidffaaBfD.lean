/-
  The facing with the most light: the program and the model.
-/
import Derived.Test.YtmniodfdoidffaaBfC
namespace Go.Proofs.Ytmniodfdoidffaa
open Go.RowKit Go.Shelf

attribute [local go_sem] Oper.semAt_some

set_option maxRecDepth 100000 in
set_option maxHeartbeats 2000000 in
theorem iBestF_no (hs ts : List Int) (hh : hs.length = 24) (ht : ts.length = 24) (h1 : okB hs ts = false) (w : World) :
    Calls Try.prog 35 #[.agg (sunC hs ts)] w fun e w' => e = .returned (.tuple #[.int .i64 0, .float .f32 0, .int .i64 1]) ∧ Below w.heap.size w w' := by
  have Hc : Hid (codeB (okB hs ts) true = 1) := by rw [h1]; rfl
  have Hh := Lib.hid hh
  have Ht := Lib.hid ht
  clear hh ht h1
  go_enter Try.func35, Try.ntmps35
  go_upto_region 1 with (fail)
  refine abs_code (fun W => Below w.heap.size w W ∧ W.heap[w.heap.size]? = some (.cells (sunC hs ts) 59 (0, 0))) ⟨(Below.refl _ _).alloc (Nat.le_refl _) _, heap_alloc_new _ _⟩ ?_
  rintro W ⟨hb, h0⟩
  have H0 := Lib.hid h0
  clear h0
  go_wp2_with (first | (refine wpList_load_part rfl 59 _ rfl w.heap.size 0 48 rfl 59 (sunC hs ts) (0, 0) _ H0.out Try.underlying59 rfl info_sun (sun_fits _ _ Hh.out Ht.out) (sunC hs ts) (sun_all _ _ Hh.out Ht.out) ?_) | (go_at_call 79; refine (checkSun_is hs ts Hh.out Ht.out true 1 Hc.out _).mono ?_; rintro e W1 ⟨rfl, hb1⟩; replace H0 := Lib.hid (below_row hb1 H0.out); replace hb := hb.trans (hb1.mono hb.size); clear hb1))
  go_ret3
  exact ⟨rfl, hb⟩

set_option maxRecDepth 100000 in
set_option maxHeartbeats 2000000 in
theorem sBestF_no (hs ts : List Int) (hh : hs.length = 24) (ht : ts.length = 24) (rb : ∀ x ∈ hs ++ ts, -32768 ≤ x ∧ x ≤ 32767) (h1 : okB hs ts = false) (w : World) :
    Calls Try.prog 33 #[.agg (sunC hs ts)] w fun e w' => e = .returned (.tuple #[.int .i64 0, .float .f32 0, .int .i64 1]) ∧ Below w.heap.size w w' := by
  have Hok := Lib.hid h1
  have Hh := Lib.hid hh
  have Ht := Lib.hid ht
  have Rb := Lib.hid rb
  clear hh ht h1 rb
  go_enter Try.func33, Try.ntmps33
  go_upto_region 1 with (fail)
  refine abs_code (fun W => Below w.heap.size w W ∧ W.heap[w.heap.size]? = some (.cells (sunC hs ts) 59 (0, 0))) ⟨(Below.refl _ _).alloc (Nat.le_refl _) _, heap_alloc_new _ _⟩ ?_
  rintro W ⟨hb, h0⟩
  have H0 := Lib.hid h0
  clear h0
  go_wp2_with (go_at_call 76; refine (l01Ok_any _ hs ts Hh.out Ht.out Rb.out 59 (0, 0) _ H0.out).mono ?_; rw [Hok.out]; rintro e w' ⟨rfl, rfl⟩)
  go_ret3
  exact ⟨rfl, hb⟩

set_option maxRecDepth 100000 in
set_option maxHeartbeats 4000000 in
theorem sBestF_yes (hs ts : List Int) (hh : hs.length = 24) (ht : ts.length = 24) (rb : ∀ x ∈ hs ++ ts, -32768 ≤ x ∧ x ≤ 32767) (h1 : okB hs ts = true) (w : World) :
    Calls Try.prog 33 #[.agg (sunC hs ts)] w fun e w' => e = .returned (.tuple #[.int .i64 ((bestTo (gF hs ts) 256).1 : Int), .float .f32 (bestTo (gF hs ts) 256).2, .int .i64 0]) ∧ Below w.heap.size w w' := by
  have HDY : Hid (∀ k : Nat, k < 256 → ∀ W, W.heap[w.heap.size]? = some (.cells (sunC hs ts) 59 (0, 0)) → Calls Try.prog 77 #[.pointer (some ⟨w.heap.size, 0, none⟩), .int .i64 (k : Int)] W fun e w' => e = .returned (.float .f32 (gF hs ts k)) ∧ Below W.heap.size W w') :=
    Lib.hid (fun k hk W q => l01Day_any w.heap.size hs ts hh ht h1 (k : Int) (by omega) (by omega) 59 (0, 0) W q)
  have H1 := Lib.hid (bestF_one hh h1)
  have HO := Lib.hid (bestF_order hs ts)
  have Hok := Lib.hid h1
  have Hh := Lib.hid hh
  have Ht := Lib.hid ht
  have Rb := Lib.hid rb
  clear hh ht h1 rb
  generalize gF hs ts = g at *
  have HG := Lib.hid (fun k (h : FloatKind.f32.format.order (g k) (bestTo g k).2 = some .gt) => bestTo_gt (g := g) (k := k) h)
  have HN := Lib.hid (fun k o (h : FloatKind.f32.format.order (g k) (bestTo g k).2 = some o) (ho : o ≠ .gt) => bestTo_no (g := g) (k := k) h ho)
  go_enter Try.func33, Try.ntmps33
  go_upto_region 1 with (fail)
  refine abs_code (fun W => Below w.heap.size w W ∧ W.heap[w.heap.size]? = some (.cells (sunC hs ts) 59 (0, 0))) ⟨(Below.refl _ _).alloc (Nat.le_refl _) _, heap_alloc_new _ _⟩ ?_
  rintro W ⟨hb, h0⟩
  have H0 := Lib.hid h0
  clear h0
  have HD0 := Lib.hid (HDY.out 0 (by decide))
  go_wp2_with (first | (go_at_call 76; refine (l01Ok_any _ hs ts Hh.out Ht.out Rb.out 59 (0, 0) _ H0.out).mono ?_; rw [Hok.out]; rintro e w' ⟨rfl, rfl⟩) | (go_at_call 77; refine (HD0.out _ H0.out).mono ?_; rintro e W1 ⟨rfl, hb1⟩; replace H0 := Lib.hid (below_row hb1 H0.out); replace hb := hb.trans (hb1.mono hb.size); clear hb1))
  go_loopw [5, 6, 7] (fun b m i wr => ∃ k : Nat, 1 ≤ k ∧ k ≤ 256 ∧ i = .int .i64 (k : Int) ∧ b = .int .i64 ((bestTo g k).1 : Int) ∧ m = .float .f32 (bestTo g k).2 ∧ Below w.heap.size w wr ∧ wr.heap[w.heap.size]? = some (.cells (sunC hs ts) 59 (0, 0))) (fun _ _ i _ => 256 - (intOf i).toNat)
  case atStart => exact ⟨1, Nat.le_refl _, by decide, rfl, by rw [H1.out]; rfl, by rw [H1.out], hb, H0.out⟩
  case round =>
    clear hb H0 HD0
    obtain ⟨k, hk0, hk, rfl, rfl, rfl, hb, h0⟩ := hrel
    have H0 := Lib.hid h0
    clear h0
    by_cases hlt : k < 256
    · have HD0 := Lib.hid (HDY.out k hlt)
      obtain ⟨o, ho⟩ := HO.out k
      have hG := HG.out k
      have hN := HN.out k
      have z1 : (k : Int) < 256 := by omega
      cases o with
      | gt =>
        have HE := Lib.hid (hG ho)
        clear hG hN
        go_wp2_with (go_at_call 77; refine (HD0.out _ H0.out).mono ?_; rintro e W1 ⟨rfl, hb1⟩; replace H0 := Lib.hid (below_row hb1 H0.out); replace hb := hb.trans (hb1.mono hb.size); clear hb1)
        go_roundw
        case rel => exact ⟨k + 1, by omega, by omega, by go_num, by rw [HE.out], by rw [HE.out], hb, H0.out⟩
        case measure => simp [intOf]; omega
      | lt =>
        have HE := Lib.hid (hN .lt ho (by decide))
        clear hG hN
        go_wp2_with (go_at_call 77; refine (HD0.out _ H0.out).mono ?_; rintro e W1 ⟨rfl, hb1⟩; replace H0 := Lib.hid (below_row hb1 H0.out); replace hb := hb.trans (hb1.mono hb.size); clear hb1)
        go_roundw
        case rel => exact ⟨k + 1, by omega, by omega, by go_num, by rw [HE.out], by rw [HE.out], hb, H0.out⟩
        case measure => simp [intOf]; omega
      | eq =>
        have HE := Lib.hid (hN .eq ho (by decide))
        clear hG hN
        go_wp2_with (go_at_call 77; refine (HD0.out _ H0.out).mono ?_; rintro e W1 ⟨rfl, hb1⟩; replace H0 := Lib.hid (below_row hb1 H0.out); replace hb := hb.trans (hb1.mono hb.size); clear hb1)
        go_roundw
        case rel => exact ⟨k + 1, by omega, by omega, by go_num, by rw [HE.out], by rw [HE.out], hb, H0.out⟩
        case measure => simp [intOf]; omega
    · obtain rfl : k = 256 := by omega
      clear hlt hk hk0 HDY HO HG HN H1
      go_wp2
      go_ret3
      exact ⟨rfl, hb⟩

set_option maxRecDepth 100000 in
set_option maxHeartbeats 8000000 in
theorem iBestF_yes (hs ts : List Int) (hh : hs.length = 24) (ht : ts.length = 24) (h1 : okB hs ts = true) (w : World) :
    Calls Try.prog 35 #[.agg (sunC hs ts)] w fun e w' => e = .returned (.tuple #[.int .i64 ((bestTo (gF hs ts) 256).1 : Int), .float .f32 (bestTo (gF hs ts) 256).2, .int .i64 0]) ∧ Below w.heap.size w w' := by
  have Hc : Hid (codeB (okB hs ts) true = 0) := by rw [h1]; rfl
  have HSE : Hid (∀ k : Nat, k < 256 → ∀ W, Calls Try.prog 80 #[.agg (sunC hs ts), .int .i64 (k : Int)] W fun e w' => e = .returned (.agg (sunC (seeHL hs ts (k : Int)) (seeTL hs ts (k : Int)))) ∧ Below W.heap.size W w') :=
    Lib.hid (fun k hk W => seenFrom_any hs ts hh ht h1 (k : Int) (by omega) (by omega) W)
  have HFO : Hid (∀ k : Nat, k < 256 → ∀ W, Calls Try.prog 81 #[.agg (sunC (seeHL hs ts (k : Int)) (seeTL hs ts (k : Int))), .int .i64 0] W fun e w' => e = .returned (.float .f32 (gF hs ts k)) ∧ Below W.heap.size W w') :=
    Lib.hid (fun k hk W => by
      have h := fallOver_any (seeHL hs ts (k : Int)) (seeTL hs ts (k : Int)) (seeHL_len _ _ _) (seeTL_len _ _ _) (see_ok hh h1 (k : Int)) 0 (by decide) (by decide) W
      have e : sumTo (fun h => fallOf (seeHL hs ts (k : Int)) (seeTL hs ts (k : Int)) (h : Int) 0) 24 = gF hs ts k := see_day hh h1 (k : Int)
      rw [e] at h
      exact h)
  have HLK : Hid (∀ (W : World) (bm n : Nat), SumsAt hs ts W bm n → ∀ f : Nat, (Instr.lookup 110 (.map (some bm)) (Value.agg (sunC (seeHL hs ts (f : Int)) (seeTL hs ts (f : Int)))) true).run Try.prog W = .ok (.tuple #[.float .f32 0, .bool false]) W ∨ (Instr.lookup 110 (.map (some bm)) (Value.agg (sunC (seeHL hs ts (f : Int)) (seeTL hs ts (f : Int)))) true).run Try.prog W = .ok (.tuple #[.float .f32 (gF hs ts f), .bool true]) W) :=
    Lib.hid (fun W bm n h f => sums_look hh h1 h f)
  have HPT : Hid (∀ (W : World) (bm n : Nat), SumsAt hs ts W bm n → n ≤ 256 → ∀ f : Nat, ∃ w', (Instr.mapUpdate 110 (.map (some bm)) (Value.agg (sunC (seeHL hs ts (f : Int)) (seeTL hs ts (f : Int)))) (.float .f32 (gF hs ts f))).run Try.prog W = .ok () w' ∧ SumsAt hs ts w' bm (n + 1) ∧ W.grownBy w' (some bm)) :=
    Lib.hid (fun W bm n h hn f => sums_put hh h1 h hn f)
  have HO := Lib.hid (bestF_order hs ts)
  have HLA : Hid (∀ f : Int, (seeHL hs ts f).length = 24) := Lib.hid (fun f => seeHL_len hs ts f)
  have HLB : Hid (∀ f : Int, (seeTL hs ts f).length = 24) := Lib.hid (fun f => seeTL_len hs ts f)
  have Hh := Lib.hid hh
  have Ht := Lib.hid ht
  have HMD := Lib.hid (sums_made hs ts)
  have HRW := Lib.hid (fun W bm n b cs ds h hr => sums_row (hs := hs) (ts := ts) (W := W) (bm := bm) (n := n) (b := b) (cs := cs) (ds := ds) (T := 59) h hr)
  clear hh ht h1
  generalize gF hs ts = g at *
  have HG := Lib.hid (fun k (h : FloatKind.f32.format.order (g k) (bestTo g k).2 = some .gt) => bestTo_gt (g := g) (k := k) h)
  have HN := Lib.hid (fun k o (h : FloatKind.f32.format.order (g k) (bestTo g k).2 = some o) (ho : o ≠ .gt) => bestTo_no (g := g) (k := k) h ho)
  go_enter Try.func35, Try.ntmps35
  go_upto_region 1 with (fail)
  refine abs_code (fun W => Below w.heap.size w W ∧ W.heap[w.heap.size]? = some (.cells (sunC hs ts) 59 (0, 0))) ⟨(Below.refl _ _).alloc (Nat.le_refl _) _, heap_alloc_new _ _⟩ ?_
  rintro W ⟨hb, h0⟩
  have H0 := Lib.hid h0
  clear h0
  have hmk : ∀ w, (Instr.makeMap 110 none).run Try.prog w = .ok (.map (some w.heap.size)) (w.alloc (.map #[] 0)) := fun w => run_makeMap 110 w
  go_upto_region 7 with (first | (refine wpList_load_part rfl 59 _ rfl w.heap.size 0 48 rfl 59 (sunC hs ts) (0, 0) _ H0.out Try.underlying59 rfl info_sun (sun_fits _ _ Hh.out Ht.out) (sunC hs ts) (sun_all _ _ Hh.out Ht.out) ?_) | (go_at_call 79; refine (checkSun_is hs ts Hh.out Ht.out true 0 Hc.out _).mono ?_; rintro e W1 ⟨rfl, hb1⟩; replace H0 := Lib.hid (below_row hb1 H0.out); replace hb := hb.trans (hb1.mono hb.size); clear hb1))
  have hM := HMD.out W1
  have hm0 : w.heap.size < W1.heap.size := row_lt H0.out
  refine abs_code (fun V => V.heap[w.heap.size]? = some (.cells (sunC hs ts) 59 (0, 0)) ∧ SumsAt hs ts V W1.heap.size 0 ∧ Below w.heap.size w V) ⟨below_row ((Below.refl W1.heap.size _).alloc (Nat.le_refl _) _) H0.out, hM, hb.alloc hb.size _⟩ ?_
  clear hb H0 hM HMD hmk
  generalize W1.heap.size = bm at *
  rintro V ⟨h0, hS, hb⟩
  have H0 := Lib.hid h0
  have HS := Lib.hid hS
  clear h0 hS
  go_wp2
  go_loopw [6, 7, 19] (fun b m i wr => ∃ k : Nat, k ≤ 256 ∧ i = .int .i64 (k : Int) ∧ b = .int .i64 ((bestTo g k).1 : Int) ∧ m = .float .f32 (bestTo g k).2 ∧ SumsAt hs ts wr bm k ∧ Below w.heap.size w wr ∧ wr.heap[w.heap.size]? = some (.cells (sunC hs ts) 59 (0, 0))) (fun _ _ i _ => 256 - (intOf i).toNat)
  case atStart => exact ⟨0, Nat.zero_le _, rfl, rfl, rfl, HS.out, hb, H0.out⟩
  case round =>
    clear hb H0 HS
    obtain ⟨k, hk, rfl, rfl, rfl, hS, hb, h0⟩ := hrel
    have H0 := Lib.hid h0
    have HS := Lib.hid hS
    clear h0 hS
    by_cases hlt : k < 256
    · have HSE0 := Lib.hid (HSE.out k hlt)
      have HFO0 := Lib.hid (HFO.out k hlt)
      obtain ⟨o, ho⟩ := HO.out k
      have hG := HG.out k
      have hN := HN.out k
      have HLK0 := Lib.hid (fun W n (h : SumsAt hs ts W bm n) => HLK.out W bm n h k)
      have HPT0 := Lib.hid (fun W n (h : SumsAt hs ts W bm n) hn => HPT.out W bm n h hn k)
      have LA := Lib.hid (HLA.out (k : Int))
      have LB := Lib.hid (HLB.out (k : Int))
      generalize seeHL hs ts (k : Int) = sa at *
      generalize seeTL hs ts (k : Int) = sb at *
      have z1 : (k : Int) < 256 := by omega
      go_upto_region 11 with (first | (refine wpList_load_part rfl 59 _ rfl w.heap.size 0 48 rfl 59 (sunC hs ts) (0, 0) _ H0.out Try.underlying59 rfl info_sun (sun_fits _ _ Hh.out Ht.out) (sunC hs ts) (sun_all _ _ Hh.out Ht.out) ?_) | (go_at_call 80; refine (HSE0.out _).mono ?_; rintro e W2 ⟨rfl, hb2⟩; replace H0 := Lib.hid (below_row hb2 H0.out); replace HS := Lib.hid (sums_below HS.out hb2); replace hb := hb.trans (hb2.mono hb.size); clear hb2) | (refine wpList_store_part rfl 59 _ _ rfl _ 0 (sunC sa sb) rfl rfl 59 _ (heap_alloc_new _ _) (by rw [sunC_size _ _ LA.out LB.out]; exact info_sun) (by rw [sunC_size _ _ LA.out LB.out]; decide) (i16s_one _) ?_; rw [laid_all _ _ (by rw [sunC_size _ _ LA.out LB.out]; rfl)]))
      have hlt0 : w.heap.size < W2.heap.size := row_lt H0.out
      have hsm := sums_below HS.out ((Below.refl W2.heap.size W2).alloc (Nat.le_refl _) (.cells (sunC zer zer) 59 (0, 0)))
      refine abs_code (fun V => V.heap[w.heap.size]? = some (.cells (sunC hs ts) 59 (0, 0)) ∧ SumsAt hs ts V bm k ∧ V.heap[W2.heap.size]? = some (.cells (sunC sa sb) 59 (0, 0)) ∧ Below w.heap.size w V) ⟨(setRow_other _ _ _ _ (by omega)).trans (below_row ((Below.refl W2.heap.size _).alloc (Nat.le_refl _) _) H0.out), HRW.out _ _ _ _ _ _ hsm (heap_alloc_new _ _), setRow_heap _ _ _ _ _ _ (heap_alloc_new _ _), below_setRow (hb.alloc hb.size _) hb.size _⟩ ?_
      clear hb H0 HS hsm HSE0
      generalize W2.heap.size = gs at *
      rintro V ⟨h0, hS, hg1, hb⟩
      have H0 := Lib.hid h0
      have HS := Lib.hid hS
      have HG1 := Lib.hid hg1
      clear h0 hS hg1
      rcases HLK0.out _ _ HS.out with hrun | hrun
      · go_upto_region 14 with (first | (refine wpList_load_part rfl 59 _ rfl gs 0 48 rfl 59 (sunC sa sb) (0, 0) _ HG1.out Try.underlying59 rfl info_sun (sun_fits _ _ LA.out LB.out) (sunC sa sb) (sun_all _ _ LA.out LB.out) ?_) | (go_at_call 81; refine (HFO0.out _).mono ?_; rintro e W3 ⟨rfl, hb3⟩; replace H0 := Lib.hid (below_row hb3 H0.out); replace HG1 := Lib.hid (below_row hb3 HG1.out); replace HS := Lib.hid (sums_below HS.out hb3); replace hb := hb.trans (hb3.mono hb.size); clear hb3))
        clear hrun
        obtain ⟨w4, hrun, hS4, hgr⟩ := HPT0.out _ _ HS.out hk
        have hbm : w.heap.size < bm := hm0
        have hb4 : Below w.heap.size w w4 := hb.grown hgr hb.size (fun j e => by injection e with e; omega)
        have h04 : w4.heap[w.heap.size]? = some (.cells (sunC hs ts) 59 (0, 0)) := (hgr.block _ (row_lt H0.out) (fun e => by injection e with e; omega)).trans H0.out
        go_upto_region 15 with (refine wpList_load_part rfl 59 _ rfl gs 0 48 rfl 59 (sunC sa sb) (0, 0) _ HG1.out Try.underlying59 rfl info_sun (sun_fits _ _ LA.out LB.out) (sunC sa sb) (sun_all _ _ LA.out LB.out) ?_)
        clear hb H0 HS hrun HPT0 HG1
        have hb := hb4
        have H0 := Lib.hid h04
        have HS := Lib.hid hS4
        clear hb4 h04 hS4 hgr
        cases o with
        | gt =>
          have HE := Lib.hid (hG ho)
          clear hG hN
          go_wp2
          go_roundw
          case rel => exact ⟨k + 1, by omega, by first | (simp; done) | (simp; omega), by rw [HE.out], by rw [HE.out], HS.out, hb, H0.out⟩
          case measure => simp [intOf]; omega
        | lt =>
          have HE := Lib.hid (hN .lt ho (by decide))
          clear hG hN
          go_wp2
          go_roundw
          case rel => exact ⟨k + 1, by omega, by first | (simp; done) | (simp; omega), by rw [HE.out], by rw [HE.out], HS.out, hb, H0.out⟩
          case measure => simp [intOf]; omega
        | eq =>
          have HE := Lib.hid (hN .eq ho (by decide))
          clear hG hN
          go_wp2
          go_roundw
          case rel => exact ⟨k + 1, by omega, by first | (simp; done) | (simp; omega), by rw [HE.out], by rw [HE.out], HS.out, hb, H0.out⟩
          case measure => simp [intOf]; omega
      · go_upto_region 15 with (refine wpList_load_part rfl 59 _ rfl gs 0 48 rfl 59 (sunC sa sb) (0, 0) _ HG1.out Try.underlying59 rfl info_sun (sun_fits _ _ LA.out LB.out) (sunC sa sb) (sun_all _ _ LA.out LB.out) ?_)
        clear hrun HPT0 HG1
        cases o with
        | gt =>
          have HE := Lib.hid (hG ho)
          clear hG hN
          go_wp2
          go_roundw
          case rel => exact ⟨k + 1, by omega, by first | (simp; done) | (simp; omega), by rw [HE.out], by rw [HE.out], sums_mono HS.out (Nat.le_succ k), hb, H0.out⟩
          case measure => simp [intOf]; omega
        | lt =>
          have HE := Lib.hid (hN .lt ho (by decide))
          clear hG hN
          go_wp2
          go_roundw
          case rel => exact ⟨k + 1, by omega, by first | (simp; done) | (simp; omega), by rw [HE.out], by rw [HE.out], sums_mono HS.out (Nat.le_succ k), hb, H0.out⟩
          case measure => simp [intOf]; omega
        | eq =>
          have HE := Lib.hid (hN .eq ho (by decide))
          clear hG hN
          go_wp2
          go_roundw
          case rel => exact ⟨k + 1, by omega, by first | (simp; done) | (simp; omega), by rw [HE.out], by rw [HE.out], sums_mono HS.out (Nat.le_succ k), hb, H0.out⟩
          case measure => simp [intOf]; omega
    · obtain rfl : k = 256 := by omega
      clear hlt hk HSE HFO HLK HPT HO HG HN HLA HLB HS
      go_wp2
      go_ret3
      exact ⟨rfl, hb⟩

set_option maxRecDepth 100000 in
set_option maxHeartbeats 1000000 in
theorem FnExactBestFacing_core (hs ts : List Int) (hh : hs.length = 24) (ht : ts.length = 24) (b : Int) (v : Nat) (c : Int) (hv : fin32 v = true)
    (hspec : ∀ w, Calls Try.prog 33 #[.agg (sunC hs ts)] w fun e w' => e = .returned (.tuple #[.int .i64 b, .float .f32 v, .int .i64 c]) ∧ Below w.heap.size w w')
    (himpl : ∀ w, Calls Try.prog 35 #[.agg (sunC hs ts)] w fun e w' => e = .returned (.tuple #[.int .i64 b, .float .f32 v, .int .i64 c]) ∧ Below w.heap.size w w') (w : World) :
    Calls Try.prog 5 #[.agg (sunC hs ts)] w fun e w' => e = .returned (.bool true) ∧ Below w.heap.size w w' := by
  have Hh := Lib.hid hh
  have Ht := Lib.hid ht
  have HS := Lib.hid hspec
  have HI := Lib.hid himpl
  clear hh ht hspec himpl
  have hw := run_wide _ hv
  have Hv := Lib.hid hv
  clear hv
  go_enter Try.func5, Try.ntmps5
  go_upto_region 1 with (fail)
  refine abs_code (fun W => Below w.heap.size w W ∧ W.heap[w.heap.size]? = some (.cells (sunC hs ts) 57 (0, 0))) ⟨(Below.refl _ _).alloc (Nat.le_refl _) _, heap_alloc_new _ _⟩ ?_
  rintro W ⟨hb, h0⟩
  have H0 := Lib.hid h0
  clear h0
  go_wp2_with (first | (refine wpList_load_part rfl 57 _ rfl w.heap.size 0 48 rfl 57 (sunC hs ts) (0, 0) _ H0.out Try.underlying57 rfl info_sunL (sun_fits _ _ Hh.out Ht.out) (sunC hs ts) (sun_all _ _ Hh.out Ht.out) ?_) | (go_at_call 34; refine (toSun_any hs ts Hh.out Ht.out _).mono ?_; rintro e W1 ⟨rfl, hb1⟩; replace H0 := Lib.hid (below_row hb1 H0.out); replace hb := hb.trans (hb1.mono hb.size); clear hb1) | (go_at_call 33; refine (HS.out _).mono ?_; rintro e W1 ⟨rfl, hb1⟩; replace H0 := Lib.hid (below_row hb1 H0.out); replace hb := hb.trans (hb1.mono hb.size); clear hb1) | (go_at_call 35; refine (HI.out _).mono ?_; rintro e W1 ⟨rfl, hb1⟩; replace H0 := Lib.hid (below_row hb1 H0.out); replace hb := hb.trans (hb1.mono hb.size); clear hb1) | (go_at_call 36; refine (same_wide _ Hv.out _).mono ?_; rintro e w1 ⟨rfl, rfl⟩))
  go_ret
  exact ⟨rfl, hb⟩

end Go.Proofs.Ytmniodfdoidffaa
