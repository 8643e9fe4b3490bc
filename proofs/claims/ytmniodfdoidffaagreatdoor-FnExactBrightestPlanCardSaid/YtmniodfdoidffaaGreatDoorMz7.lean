/-
  BpD.
-/
import Derived.Test.YtmniodfdoidffaaGreatDoorMz6
import Derived.Test.YtmniodfdoidffaaGreatDoorMz5

namespace Go.Proofs.YtmniodfdoidffaaGreatDoor
open Go.ChangeShapes Go.WideShapes Go.ChangeAt Go.RowKit Go.Deep Go.Joins

attribute [local go_sem] run_store_f

def plN (pk : List Int) (k : Nat) (gk : Int → Nat) (L : List Int) : List Int := if L = [] then pk else pk.set k (bpT gk L)

theorem plN_len (pk : List Int) (k : Nat) (gk : Int → Nat) (L : List Int) : (plN pk k gk L).length = pk.length := by
  unfold plN
  split <;> simp

theorem bp_walk (g : Nat → Int → Nat) (T : Nat → List Int) (hi k : Nat) (hk : k < 24) (hq : ∀ x, pos32 (g k x) = true) (hhi : fin32 hi = true) (hT : T k = wantT (fun x => !gtO (g k x) hi) (tls 129)) :
    ∃ (bz : Nat → Nat) (pn : Nat → List Int), bz 0 = 3212836864 ∧ pn 0 = bpL g T k ∧ (∀ m, (pn m).length = 24) ∧
      (∀ m : Nat, m < 129 → ∃ o1 od : Ordering, FloatKind.f32.format.order (g k ((m : Int) - 64)) hi = some o1 ∧ FloatKind.f32.format.order (g k ((m : Int) - 64)) (bz m) = some od ∧ (o1 = .gt → bz (m + 1) = bz m ∧ pn (m + 1) = pn m) ∧ (o1 ≠ .gt → od = .gt → bz (m + 1) = g k ((m : Int) - 64) ∧ pn (m + 1) = (pn m).set k ((m : Int) - 64)) ∧ (o1 ≠ .gt → od ≠ .gt → bz (m + 1) = bz m ∧ pn (m + 1) = pn m)) ∧
      (T k = [] → FloatKind.f32.format.order (bz 129) 0 = some .lt) ∧
      (T k ≠ [] → bz 129 = g k (bpT (g k) (T k)) ∧ pn 129 = bpL g T (k + 1) ∧ ∃ o : Ordering, FloatKind.f32.format.order (bz 129) 0 = some o ∧ o ≠ .lt) := by
  have hl := bpL_len g T (k := k) (by omega)
  refine ⟨fun m => mFz ((wantT (fun x => !gtO (g k x) hi) (tls m)).map (g k)), fun m => plN (bpL g T k) k (g k) (wantT (fun x => !gtO (g k x) hi) (tls m)), rfl, rfl, fun m => by rw [plN_len]; exact hl, fun m hm => ?_, fun h => ?_, fun h => ?_⟩
  · have hmem : ∀ z ∈ (wantT (fun x => !gtO (g k x) hi) (tls m)).map (g k), pos32 z = true := by
      intro z hz
      obtain ⟨x, _, rfl⟩ := List.mem_map.1 hz
      exact hq x
    obtain ⟨o1, h1⟩ := order_some (pos_fin (hq ((m : Int) - 64))) hhi
    obtain ⟨od, h2⟩ := order_some (pos_fin (hq ((m : Int) - 64))) (mFz_fin hmem)
    have hgt : gtO (g k ((m : Int) - 64)) hi = (o1 == .gt) := by
      unfold gtO
      rw [h1]
      cases o1 <;> rfl
    have hst := bp_step (hq ((m : Int) - 64)) h2
    refine ⟨o1, od, h1, h2, fun e => ?_, fun e e2 => ?_, fun e e2 => ?_⟩
    · have hw : wantT (fun x => !gtO (g k x) hi) (tls (m + 1)) = wantT (fun x => !gtO (g k x) hi) (tls m) := by
        rw [tls_succ]
        refine wantT_miss _ _ _ ?_
        rw [tl_val m hm, hgt, e]
        rfl
      simp only [hw, and_self]
    · have hw : wantT (fun x => !gtO (g k x) hi) (tls (m + 1)) = wantT (fun x => !gtO (g k x) hi) (tls m) ++ [(m : Int) - 64] := by
        rw [tls_succ, wantT_hit _ _ _ (by rw [tl_val m hm, hgt]; cases o1 <;> first | rfl | exact absurd rfl e), tl_val m hm]
      obtain ⟨s1, s2⟩ := hst.1 e2
      simp only [hw]
      refine ⟨s1, ?_⟩
      unfold plN
      rw [if_neg (by simp), s2]
      split
      · rfl
      · rw [List.set_set]
    · have hw : wantT (fun x => !gtO (g k x) hi) (tls (m + 1)) = wantT (fun x => !gtO (g k x) hi) (tls m) ++ [(m : Int) - 64] := by
        rw [tls_succ, wantT_hit _ _ _ (by rw [tl_val m hm, hgt]; cases o1 <;> first | rfl | exact absurd rfl e), tl_val m hm]
      obtain ⟨s1, s2, s3⟩ := hst.2 e2
      simp only [hw]
      refine ⟨s1, ?_⟩
      unfold plN
      rw [if_neg (by simp), if_neg s2, s3]
  · show FloatKind.f32.format.order (mFz ((wantT (fun x => !gtO (g k x) hi) (tls 129)).map (g k))) 0 = some .lt
    rw [← hT, h]
    exact (by decide +kernel : FloatKind.f32.format.order 3212836864 0 = some .lt)
  · have e1 : mFz ((wantT (fun x => !gtO (g k x) hi) (tls 129)).map (g k)) = g k (bpT (g k) (T k)) := by rw [← hT]; exact mFz_best h
    refine ⟨e1, ?_, ?_⟩
    · show plN (bpL g T k) k (g k) (wantT (fun x => !gtO (g k x) hi) (tls 129)) = bpL g T (k + 1)
      rw [← hT]
      unfold plN
      rw [if_neg h]
      exact bpL_set g T hk
    · show ∃ o : Ordering, FloatKind.f32.format.order (mFz ((wantT (fun x => !gtO (g k x) hi) (tls 129)).map (g k))) 0 = some o ∧ o ≠ .lt
      rw [e1]
      obtain ⟨o, ho⟩ := order_some (pos_fin (hq (bpT (g k) (T k)))) (y := 0) (by decide +kernel)
      refine ⟨o, ho, fun e => ?_⟩
      have := pos_not_lt (hq (bpT (g k) (T k)))
      rw [ho, e] at this
      exact absurd this (by decide)

set_option maxRecDepth 100000 in
set_option maxHeartbeats 4000000 in
theorem sBest_F (n : Int) (wd gp : Nat) (t : Int) (sh : Nat) (hs ts : List Int) (hh : hs.length = 24) (ht : ts.length = 24) (fc : Int) (hi : Nat) (T0 : -32768 ≤ t) (T1 : t ≤ 32767) (N0 : -128 ≤ n) (N1 : n ≤ 127) (rb : ∀ x ∈ hs ++ ts, -32768 ≤ x ∧ x ≤ 32767) (hf : inF fc = false) (c : Int) (hc : cdP true (okBl n wd gp t sh) (okB hs ts) false = c) (hne : c ≠ 0) (w : World) :
    Calls Tryz.prog 10 #[.agg (blindC n wd gp t sh), .agg (sunC hs ts), .int .i64 fc, .float .f32 hi] w fun e w' => e = .returned (.tuple #[.agg (i16s zP), .float .f32 0, .int .i64 c]) ∧ Below w.heap.size w w' := by
  have HA := Lib.hid (fun g1 g2 g3 w q1 q2 q3 => l07Asked_is n wd gp t sh hs ts hh ht zP zP_len T0 T1 N0 N1 rb zP_b false c (by rw [zP_ok]; exact hc) g1 g2 g3 w q1 q2 q3)
  have HF := Lib.hid hf
  have HZB : Hid (Tryz.prog.built 30 [] = some (i16s zP)) := by unfold Hid; kernel_rfl
  clear hh ht hc hf T0 T1 N0 N1 rb
  go_enter Tryz.func10, Tryz.ntmps10
  go_upto_region 1 with (fail)
  refine abs_code (fun W => W.heap[w.heap.size]? = some (.cells (blindC n wd gp t sh) 33 (0, 0)) ∧ W.heap[w.heap.size + 1]? = some (.cells (sunC hs ts) 35 (0, 0)) ∧ W.heap[w.heap.size + 1 + 1]? = some (.cells (i16s zP) 30 (0, 0)) ∧ Below w.heap.size w W) ⟨(three_new _ _ _ _).1, (three_new _ _ _ _).2.1, (three_new _ _ _ _).2.2.1, (three_new _ _ _ _).2.2.2⟩ ?_
  rintro W ⟨h0, h1, h2, hb⟩
  have n01 : w.heap.size < w.heap.size + 1 := by omega
  have n12 : w.heap.size + 1 < w.heap.size + 1 + 1 := by omega
  have hle2 : w.heap.size ≤ w.heap.size + 1 + 1 := by omega
  generalize w.heap.size + 1 + 1 = b2 at *
  generalize w.heap.size + 1 = b1 at *
  have H0 := Lib.hid h0
  have H1 := Lib.hid h1
  have H2 := Lib.hid h2
  clear h0 h1 h2
  go_upto_region 2 with (first | (refine wpList_buildL rfl 30 _ rfl _ rfl [] rfl (i16s zP) HZB.out ?_) | (refine wpList_store_part rfl 30 _ _ rfl _ 0 (i16s zP) rfl rfl 30 _ (heap_alloc_new _ _) info_plan (Nat.le_refl _) zP_one ?_; rw [laid_all _ _ (by rfl)]))
  refine abs_code (fun V => V.heap[w.heap.size]? = some (.cells (blindC n wd gp t sh) 33 (0, 0)) ∧ V.heap[b1]? = some (.cells (sunC hs ts) 35 (0, 0)) ∧ V.heap[b2]? = some (.cells (i16s zP) 30 (0, 0)) ∧ V.heap[W.heap.size]? = some (.cells (i16s zP) 30 (0, 0)) ∧ Below w.heap.size w V) ⟨below_row (zbel _ _ _) H0.out, below_row (zbel _ _ _) H1.out, below_row (zbel _ _ _) H2.out, setRow_heap _ _ _ _ _ _ (heap_alloc_new _ _), below_setRow (hb.alloc hb.size _) hb.size _⟩ ?_
  have hb23 := row_lt H2.out
  have hle3 := hb.size
  clear H0 H1 H2 hb
  generalize W.heap.size = b3 at *
  rintro V ⟨h0, h1, h2, h3, hb⟩
  have H0 := Lib.hid h0
  have H1 := Lib.hid h1
  have H2 := Lib.hid h2
  have H3 := Lib.hid h3
  clear h0 h1 h2 h3
  go_wp2_with (first | (go_at_call 14; refine (l01Faced_is fc false HF.out _).mono ?_; rintro e w' ⟨rfl, rfl⟩) | (go_at_call 13; refine (HA.out _ _ _ _ H0.out H1.out H3.out).mono ?_; rintro e w' ⟨rfl, rfl⟩) | (refine wpList_buildL rfl 30 _ rfl _ rfl [] rfl (i16s zP) HZB.out ?_) | (refine wpList_store_part rfl 30 _ _ rfl b2 0 (i16s zP) rfl rfl 30 (i16s zP) H2.out info_plan (Nat.le_refl _) zP_one ?_; rw [laid_all _ _ (by rfl)]))
  refine bodyPost_ret (results_plan rfl _ _ b2 zP zP_len rfl (setRow_heap _ _ _ _ _ _ H2.out)) rfl ?_
  exact ⟨rfl, below_setRow hb hle2 _⟩

set_option maxRecDepth 100000 in
set_option maxHeartbeats 4000000 in
theorem sBest_T (n : Int) (wd gp : Nat) (t : Int) (sh : Nat) (hs ts : List Int) (hh : hs.length = 24) (ht : ts.length = 24) (fc : Int) (hi : Nat) (T0 : -32768 ≤ t) (T1 : t ≤ 32767) (N0 : -128 ≤ n) (N1 : n ≤ 127) (rb : ∀ x ∈ hs ++ ts, -32768 ≤ x ∧ x ≤ 32767) (hf : inF fc = true) (hgh : Bool) (hhi : partB hi = hgh) (c : Int) (hc : cdP true (okBl n wd gp t sh) (okB hs ts) hgh = c) (hne : c ≠ 0) (w : World) :
    Calls Tryz.prog 10 #[.agg (blindC n wd gp t sh), .agg (sunC hs ts), .int .i64 fc, .float .f32 hi] w fun e w' => e = .returned (.tuple #[.agg (i16s zP), .float .f32 0, .int .i64 c]) ∧ Below w.heap.size w w' := by
  have HA := Lib.hid (fun g1 g2 g3 w q1 q2 q3 => l07Asked_is n wd gp t sh hs ts hh ht zP zP_len T0 T1 N0 N1 rb zP_b hgh c (by rw [zP_ok]; exact hc) g1 g2 g3 w q1 q2 q3)
  have HF := Lib.hid hf
  have HHi := Lib.hid (fun w => l01Part_is hi hgh hhi w)
  have HZB : Hid (Tryz.prog.built 30 [] = some (i16s zP)) := by unfold Hid; kernel_rfl
  clear hh ht hc hf hhi T0 T1 N0 N1 rb
  go_enter Tryz.func10, Tryz.ntmps10
  go_upto_region 1 with (fail)
  refine abs_code (fun W => W.heap[w.heap.size]? = some (.cells (blindC n wd gp t sh) 33 (0, 0)) ∧ W.heap[w.heap.size + 1]? = some (.cells (sunC hs ts) 35 (0, 0)) ∧ W.heap[w.heap.size + 1 + 1]? = some (.cells (i16s zP) 30 (0, 0)) ∧ Below w.heap.size w W) ⟨(three_new _ _ _ _).1, (three_new _ _ _ _).2.1, (three_new _ _ _ _).2.2.1, (three_new _ _ _ _).2.2.2⟩ ?_
  rintro W ⟨h0, h1, h2, hb⟩
  have n01 : w.heap.size < w.heap.size + 1 := by omega
  have n12 : w.heap.size + 1 < w.heap.size + 1 + 1 := by omega
  have hle2 : w.heap.size ≤ w.heap.size + 1 + 1 := by omega
  generalize w.heap.size + 1 + 1 = b2 at *
  generalize w.heap.size + 1 = b1 at *
  have H0 := Lib.hid h0
  have H1 := Lib.hid h1
  have H2 := Lib.hid h2
  clear h0 h1 h2
  go_upto_region 2 with (first | (refine wpList_buildL rfl 30 _ rfl _ rfl [] rfl (i16s zP) HZB.out ?_) | (refine wpList_store_part rfl 30 _ _ rfl _ 0 (i16s zP) rfl rfl 30 _ (heap_alloc_new _ _) info_plan (Nat.le_refl _) zP_one ?_; rw [laid_all _ _ (by rfl)]))
  refine abs_code (fun V => V.heap[w.heap.size]? = some (.cells (blindC n wd gp t sh) 33 (0, 0)) ∧ V.heap[b1]? = some (.cells (sunC hs ts) 35 (0, 0)) ∧ V.heap[b2]? = some (.cells (i16s zP) 30 (0, 0)) ∧ V.heap[W.heap.size]? = some (.cells (i16s zP) 30 (0, 0)) ∧ Below w.heap.size w V) ⟨below_row (zbel _ _ _) H0.out, below_row (zbel _ _ _) H1.out, below_row (zbel _ _ _) H2.out, setRow_heap _ _ _ _ _ _ (heap_alloc_new _ _), below_setRow (hb.alloc hb.size _) hb.size _⟩ ?_
  have hb23 := row_lt H2.out
  have hle3 := hb.size
  clear H0 H1 H2 hb
  generalize W.heap.size = b3 at *
  rintro V ⟨h0, h1, h2, h3, hb⟩
  have H0 := Lib.hid h0
  have H1 := Lib.hid h1
  have H2 := Lib.hid h2
  have H3 := Lib.hid h3
  clear h0 h1 h2 h3
  go_wp2_with (first | (go_at_call 14; refine (l01Faced_is fc true HF.out _).mono ?_; rintro e w' ⟨rfl, rfl⟩) | (go_at_call 15; refine (HHi.out _).mono ?_; rintro e w' ⟨rfl, rfl⟩) | (go_at_call 13; refine (HA.out _ _ _ _ H0.out H1.out H3.out).mono ?_; rintro e w' ⟨rfl, rfl⟩) | (refine wpList_buildL rfl 30 _ rfl _ rfl [] rfl (i16s zP) HZB.out ?_) | (refine wpList_store_part rfl 30 _ _ rfl b2 0 (i16s zP) rfl rfl 30 (i16s zP) H2.out info_plan (Nat.le_refl _) zP_one ?_; rw [laid_all _ _ (by rfl)]))
  refine bodyPost_ret (results_plan rfl _ _ b2 zP zP_len rfl (setRow_heap _ _ _ _ _ _ H2.out)) rfl ?_
  exact ⟨rfl, below_setRow hb hle2 _⟩

set_option maxRecDepth 100000 in
set_option maxHeartbeats 8000000 in
theorem sBest_yes (n : Int) (wd gp : Nat) (t : Int) (sh : Nat) (hs ts : List Int) (hh : hs.length = 24) (ht : ts.length = 24) (fc : Int) (hi : Nat) (bw : BlWf n wd gp t sh) (T0 : -32768 ≤ t) (T1 : t ≤ 32767) (N0 : -128 ≤ n) (N1 : n ≤ 127) (rb : ∀ x ∈ hs ++ ts, -32768 ≤ x ∧ x ≤ 32767) (hf : inF fc = true) (hhi : partB hi = true) (whi : (Lit.float .f32 hi).wf = true) (hc : cdP true (okBl n wd gp t sh) (okB hs ts) true = 0) (T : Nat → List Int) (hT : T = (fun h : Nat => wantT (kpB hs ts fc 0 hi wd gp sh (h : Int)) (tls 129))) (g : Nat → Int → Nat) (hgd : g = (fun (h : Nat) (x : Int) => winB wd gp x sh hs ts (h : Int) fc))
    (p : List Int) (hp : ∀ k, k = 24 → bpL g T k = p) (sB : Nat) (hsB : ∀ k, k = 24 → sumTo (fun j => g j (bpT (g j) (T j))) k = sB) (pl : List Int) (vv : Nat) (cc : Int) (hA : (∀ h, h < 24 → T h ≠ []) → pl = p ∧ vv = sB ∧ cc = 0) (hB : (∃ h, h < 24 ∧ T h = []) → pl = zP ∧ vv = 0 ∧ cc = 6) (w : World) :
    Calls Tryz.prog 10 #[.agg (blindC n wd gp t sh), .agg (sunC hs ts), .int .i64 fc, .float .f32 hi] w fun e w' => e = .returned (.tuple #[.agg (i16s pl), .float .f32 vv, .int .i64 cc]) ∧ Below w.heap.size w w' := by
  have HA := Lib.hid (fun g1 g2 g3 w q1 q2 q3 => l07Asked_is n wd gp t sh hs ts hh ht zP zP_len T0 T1 N0 N1 rb zP_b true 0 (by rw [zP_ok]; exact hc) g1 g2 g3 w q1 q2 q3)
  obtain ⟨_, hk, hos, _⟩ := cdP_yes hc
  have OK := blok_of bw hk
  have dh : ∀ k : Nat, k < 24 → HrOk hs ts (k : Int) fc := fun k hk => hrok_of hh ht hos (by omega) (by omega) hf
  have HLT : Hid (∀ k : Nat, k < 24 → ∀ x : Int, -64 ≤ x → x ≤ 64 → ∀ (g1 g2 : Nat) (w : World), w.heap[g1]? = some (.cells (blindC n wd gp t sh) 33 (0, 0)) → w.heap[g2]? = some (.cells (sunC hs ts) 35 (0, 0)) → Calls Tryz.prog 28 #[.pointer (some ⟨g1, 0, none⟩), .pointer (some ⟨g2, 0, none⟩), .int .i64 fc, .int .i64 (k : Int), .int .i64 x] w fun e w' => e = .returned (.float .f32 (g k x)) ∧ Below w.heap.size w w') := by
    rw [hgd]
    exact fun k hk x x0 x1 g1 g2 w q1 q2 => l07At_any n wd gp t sh hs ts hh ht OK fc (k : Int) x (dh k hk) x0 x1 g1 g2 w q1 q2
  have hps : ∀ k : Nat, k < 24 → ∀ x, pos32 (g k x) = true := by
    rw [hgd]
    exact fun k hk x => winB_pos wd gp x OK.2.2.2.2.2.2.2.2 hs ts (k : Int) fc (dh k hk).x1
  have htw : ∀ k : Nat, k < 24 → T k = wantT (fun x => !gtO (g k x) hi) (tls 129) := by
    intro k hk
    have e : ∀ x, kpB hs ts fc 0 hi wd gp sh (k : Int) x = !gtO (g k x) hi := by
      rw [hgd]
      exact fun x => kp_low (winB_pos wd gp x OK.2.2.2.2.2.2.2.2 hs ts (k : Int) fc (dh k hk).x1)
    rw [hT]
    show wantT (kpB hs ts fc 0 hi wd gp sh (k : Int)) (tls 129) = _
    exact congrArg (wantT · (tls 129)) (funext e)
  obtain ⟨f, hfd⟩ : ∃ f : Nat → Nat, f = fun j => g j (bpT (g j) (T j)) := ⟨_, rfl⟩
  rw [← hfd] at hsB
  have hfp : ∀ k, k < 24 → pos32 (f k) = true := fun k hk => by rw [hfd]; exact hps k hk _
  have HADD : Hid (∀ k, k < 24 → floatBits .add .f32 (sumTo f k) (f k) = some (sumTo f (k + 1))) := Lib.hid (fun k hk => by rw [sumTo_succ]; exact (add_ok (sumTo_pos f 24 hfp k (by omega)) (hfp k hk)).1)
  have HWK := Lib.hid (fun k hk => bp_walk g T hi k hk (hps k hk) (part_fin whi hhi) (htw k hk))
  have HFK : Hid (∀ k, f k = g k (bpT (g k) (T k))) := by rw [hfd]; exact fun k => rfl
  have hpl : p.length = 24 := by rw [← hp 24 rfl]; exact bpL_len g T (Nat.le_refl _)
  have HPL := Lib.hid hpl
  have HP := Lib.hid hp
  have HSB := Lib.hid hsB
  have HF := Lib.hid hf
  have HHi := Lib.hid (fun w => l01Part_is hi true hhi w)
  have HAA := Lib.hid hA
  have HBB := Lib.hid hB
  have HZB : Hid (Tryz.prog.built 30 [] = some (i16s zP)) := by unfold Hid; kernel_rfl
  clear hh ht hc hf hhi OK dh bw hA hB hp hpl hT hgd hps htw hfp hfd hsB T0 T1 N0 N1 rb whi
  go_enter Tryz.func10, Tryz.ntmps10
  go_upto_region 1 with (fail)
  refine abs_code (fun W => W.heap[w.heap.size]? = some (.cells (blindC n wd gp t sh) 33 (0, 0)) ∧ W.heap[w.heap.size + 1]? = some (.cells (sunC hs ts) 35 (0, 0)) ∧ W.heap[w.heap.size + 1 + 1]? = some (.cells (i16s zP) 30 (0, 0)) ∧ Below w.heap.size w W) ⟨(three_new _ _ _ _).1, (three_new _ _ _ _).2.1, (three_new _ _ _ _).2.2.1, (three_new _ _ _ _).2.2.2⟩ ?_
  rintro W ⟨h0, h1, h2, hb⟩
  have n01 : w.heap.size < w.heap.size + 1 := by omega
  have n12 : w.heap.size + 1 < w.heap.size + 1 + 1 := by omega
  have hle2 : w.heap.size ≤ w.heap.size + 1 + 1 := by omega
  generalize w.heap.size + 1 + 1 = b2 at *
  generalize w.heap.size + 1 = b1 at *
  have H0 := Lib.hid h0
  have H1 := Lib.hid h1
  have H2 := Lib.hid h2
  clear h0 h1 h2
  go_upto_region 2 with (first | (refine wpList_buildL rfl 30 _ rfl _ rfl [] rfl (i16s zP) HZB.out ?_) | (refine wpList_store_part rfl 30 _ _ rfl _ 0 (i16s zP) rfl rfl 30 _ (heap_alloc_new _ _) info_plan (Nat.le_refl _) zP_one ?_; rw [laid_all _ _ (by rfl)]))
  refine abs_code (fun V => V.heap[w.heap.size]? = some (.cells (blindC n wd gp t sh) 33 (0, 0)) ∧ V.heap[b1]? = some (.cells (sunC hs ts) 35 (0, 0)) ∧ V.heap[b2]? = some (.cells (i16s zP) 30 (0, 0)) ∧ V.heap[W.heap.size]? = some (.cells (i16s zP) 30 (0, 0)) ∧ Below w.heap.size w V) ⟨below_row (zbel _ _ _) H0.out, below_row (zbel _ _ _) H1.out, below_row (zbel _ _ _) H2.out, setRow_heap _ _ _ _ _ _ (heap_alloc_new _ _), below_setRow (hb.alloc hb.size _) hb.size _⟩ ?_
  have hb23 := row_lt H2.out
  have hle3 := hb.size
  clear H0 H1 H2 hb
  generalize W.heap.size = b3 at *
  rintro V ⟨h0, h1, h2, h3, hb⟩
  have H0 := Lib.hid h0
  have H1 := Lib.hid h1
  have H2 := Lib.hid h2
  have H3 := Lib.hid h3
  clear h0 h1 h2 h3
  go_wp2_with (first | (go_at_call 14; refine (l01Faced_is fc true HF.out _).mono ?_; rintro e w' ⟨rfl, rfl⟩) | (go_at_call 15; refine (HHi.out _).mono ?_; rintro e w' ⟨rfl, rfl⟩) | (go_at_call 13; refine (HA.out _ _ _ _ H0.out H1.out H3.out).mono ?_; rintro e w' ⟨rfl, rfl⟩))
  go_loopw [13, 14] (fun s i wr => ∃ k : Nat, k ≤ 24 ∧ i = .int .i64 (k : Int) ∧ s = .float .f32 (sumTo f k) ∧ wr.heap[w.heap.size]? = some (.cells (blindC n wd gp t sh) 33 (0, 0)) ∧ wr.heap[b1]? = some (.cells (sunC hs ts) 35 (0, 0)) ∧ wr.heap[b2]? = some (.cells (i16s zP) 30 (0, 0)) ∧ wr.heap[b3]? = some (.cells (i16s (bpL g T k)) 30 (0, 0)) ∧ Below w.heap.size w wr ∧ (∀ j, j < k → T j ≠ [])) (fun _ i _ => 24 - (intOf i).toNat)
  case atStart => exact ⟨0, Nat.zero_le _, rfl, rfl, H0.out, H1.out, H2.out, H3.out, hb, fun j hj => absurd hj (Nat.not_lt_zero j)⟩
  case round =>
    clear H0 H1 H2 H3 hb HA HF HHi
    obtain ⟨k, hk, rfl, rfl, h0, h1, h2, h3, hb, hne⟩ := hrel
    have H0 := Lib.hid h0
    have H1 := Lib.hid h1
    have H2 := Lib.hid h2
    have H3 := Lib.hid h3
    have HNE0 := Lib.hid hne
    clear h0 h1 h2 h3 hne
    by_cases hlt : k < 24
    · have HLK := Lib.hid (HLT.out k hlt)
      obtain ⟨bz, pn, hz0, hp0, hpnl, hrd, he1, he2⟩ := HWK.out k hlt
      rw [← HFK.out k] at he2
      have hadd := HADD.out k hlt
      have HPNL := Lib.hid hpnl
      have HRD := Lib.hid hrd
      have HE1 := Lib.hid he1
      have HE2 := Lib.hid he2
      have HZ0 := Lib.hid hz0
      have HP0 := Lib.hid hp0
      have HTE : Hid (T k = [] → pl = zP ∧ vv = 0 ∧ cc = 6) := Lib.hid (fun h => HBB.out ⟨k, hlt, h⟩)
      have HNE1 : Hid (T k ≠ [] → ∀ j, j < k + 1 → T j ≠ []) := Lib.hid (fun h j hj => by
        by_cases e : j = k
        · rw [e]; exact h
        · exact HNE0.out j (by omega))
      have HAD : Hid (floatBits .add .f32 (sumTo f k) (f k) = some (sumTo f (k + 1))) := Lib.hid hadd
      clear hz0 hp0 hpnl hrd he1 he2 hadd HWK HADD HFK HLT HNE0 HP HSB HAA HBB
      generalize g k = gk at *
      have z1 : (k : Int) < 24 := by omega
      have z2 : (0 : Int) ≤ (k : Int) := by omega
      go_wp2
      go_loopw [15, 16] (fun s i wq => ∃ m : Nat, m ≤ 129 ∧ i = .int .i64 ((m : Int) - 64) ∧ s = .float .f32 (bz m) ∧ wq.heap[w.heap.size]? = some (.cells (blindC n wd gp t sh) 33 (0, 0)) ∧ wq.heap[b1]? = some (.cells (sunC hs ts) 35 (0, 0)) ∧ wq.heap[b2]? = some (.cells (i16s zP) 30 (0, 0)) ∧ wq.heap[b3]? = some (.cells (i16s (pn m)) 30 (0, 0)) ∧ Below w.heap.size w wq) (fun _ i _ => (65 - intOf i).toNat)
      case atStart => exact ⟨0, Nat.zero_le _, rfl, by rw [HZ0.out], H0.out, H1.out, H2.out, by rw [HP0.out]; exact H3.out, hb⟩
      case round =>
        clear H0 H1 H2 H3 hb HZ0 HP0
        obtain ⟨m, hm, rfl, rfl, h0, h1, h2, h3, hbq⟩ := hrel
        have H0 := Lib.hid h0
        have H1 := Lib.hid h1
        have H2 := Lib.hid h2
        have H3 := Lib.hid h3
        clear h0 h1 h2 h3
        by_cases hlm : m < 129
        · have y0 : (-64 : Int) ≤ (m : Int) - 64 := by omega
          have y1 : (m : Int) - 64 ≤ 64 := by omega
          have HX := Lib.hid (HLK.out ((m : Int) - 64) y0 y1)
          have hwx : IntKind.i16.wrap ((m : Int) - 64) = (m : Int) - 64 := by rw [IntWalk.i16_in _ (by omega)]
          obtain ⟨o1, od, q1, q2, r1, r2, r3⟩ := HRD.out m hlm
          have R1 := Lib.hid r1
          have R2 := Lib.hid r2
          have R3 := Lib.hid r3
          clear r1 r2 r3
          generalize gk ((m : Int) - 64) = v at *
          cases o1 with
          | gt =>
            go_wp2_with (go_at_call 28; refine (HX.out _ _ _ H0.out H1.out).mono ?_; rintro e W5 ⟨rfl, hb5⟩; replace H0 := Lib.hid (below_row hb5 H0.out); replace H1 := Lib.hid (below_row hb5 H1.out); replace H2 := Lib.hid (below_row hb5 H2.out); replace H3 := Lib.hid (below_row hb5 H3.out); have hd := cell_of_i16s H3.out k (by rw [HPNL.out]; exact hlt); have hf := frozen_of_row _ b3 k _ _ H3.out; replace hbq := hbq.trans (hb5.mono hbq.size); clear hb5)
            go_roundw
            case rel => exact ⟨m + 1, by omega, by simp; omega, by rw [(R1.out (by simp)).1], H0.out, H1.out, H2.out, by rw [(R1.out (by simp)).2]; exact H3.out, hbq⟩
            case measure => simp [intOf]; omega
          | lt =>
            cases od with
            | gt =>
              go_wp2_with (go_at_call 28; refine (HX.out _ _ _ H0.out H1.out).mono ?_; rintro e W5 ⟨rfl, hb5⟩; replace H0 := Lib.hid (below_row hb5 H0.out); replace H1 := Lib.hid (below_row hb5 H1.out); replace H2 := Lib.hid (below_row hb5 H2.out); replace H3 := Lib.hid (below_row hb5 H3.out); have hd := cell_of_i16s H3.out k (by rw [HPNL.out]; exact hlt); have hf := frozen_of_row _ b3 k _ _ H3.out; replace hbq := hbq.trans (hb5.mono hbq.size); clear hb5)
              go_roundw
              case rel => exact ⟨m + 1, by omega, by simp; omega, by rw [(R2.out (by simp) (by simp)).1], (heap_setCell_other _ _ _ _ (by simp; omega)).trans H0.out, (heap_setCell_other _ _ _ _ (by simp; omega)).trans H1.out, (heap_setCell_other _ _ _ _ (by simp; omega)).trans H2.out, by rw [heap_setCell_same _ _ _ _ _ _ H3.out, i16s_set, (R2.out (by simp) (by simp)).2], hbq.setCell (p := ⟨b3, k, none⟩) hle3 _⟩
              case measure => simp [intOf]; omega
            | lt =>
              go_wp2_with (go_at_call 28; refine (HX.out _ _ _ H0.out H1.out).mono ?_; rintro e W5 ⟨rfl, hb5⟩; replace H0 := Lib.hid (below_row hb5 H0.out); replace H1 := Lib.hid (below_row hb5 H1.out); replace H2 := Lib.hid (below_row hb5 H2.out); replace H3 := Lib.hid (below_row hb5 H3.out); have hd := cell_of_i16s H3.out k (by rw [HPNL.out]; exact hlt); have hf := frozen_of_row _ b3 k _ _ H3.out; replace hbq := hbq.trans (hb5.mono hbq.size); clear hb5)
              go_roundw
              case rel => exact ⟨m + 1, by omega, by simp; omega, by rw [(R3.out (by simp) (by simp)).1], H0.out, H1.out, H2.out, by rw [(R3.out (by simp) (by simp)).2]; exact H3.out, hbq⟩
              case measure => simp [intOf]; omega
            | eq =>
              go_wp2_with (go_at_call 28; refine (HX.out _ _ _ H0.out H1.out).mono ?_; rintro e W5 ⟨rfl, hb5⟩; replace H0 := Lib.hid (below_row hb5 H0.out); replace H1 := Lib.hid (below_row hb5 H1.out); replace H2 := Lib.hid (below_row hb5 H2.out); replace H3 := Lib.hid (below_row hb5 H3.out); have hd := cell_of_i16s H3.out k (by rw [HPNL.out]; exact hlt); have hf := frozen_of_row _ b3 k _ _ H3.out; replace hbq := hbq.trans (hb5.mono hbq.size); clear hb5)
              go_roundw
              case rel => exact ⟨m + 1, by omega, by simp; omega, by rw [(R3.out (by simp) (by simp)).1], H0.out, H1.out, H2.out, by rw [(R3.out (by simp) (by simp)).2]; exact H3.out, hbq⟩
              case measure => simp [intOf]; omega
          | eq =>
            cases od with
            | gt =>
              go_wp2_with (go_at_call 28; refine (HX.out _ _ _ H0.out H1.out).mono ?_; rintro e W5 ⟨rfl, hb5⟩; replace H0 := Lib.hid (below_row hb5 H0.out); replace H1 := Lib.hid (below_row hb5 H1.out); replace H2 := Lib.hid (below_row hb5 H2.out); replace H3 := Lib.hid (below_row hb5 H3.out); have hd := cell_of_i16s H3.out k (by rw [HPNL.out]; exact hlt); have hf := frozen_of_row _ b3 k _ _ H3.out; replace hbq := hbq.trans (hb5.mono hbq.size); clear hb5)
              go_roundw
              case rel => exact ⟨m + 1, by omega, by simp; omega, by rw [(R2.out (by simp) (by simp)).1], (heap_setCell_other _ _ _ _ (by simp; omega)).trans H0.out, (heap_setCell_other _ _ _ _ (by simp; omega)).trans H1.out, (heap_setCell_other _ _ _ _ (by simp; omega)).trans H2.out, by rw [heap_setCell_same _ _ _ _ _ _ H3.out, i16s_set, (R2.out (by simp) (by simp)).2], hbq.setCell (p := ⟨b3, k, none⟩) hle3 _⟩
              case measure => simp [intOf]; omega
            | lt =>
              go_wp2_with (go_at_call 28; refine (HX.out _ _ _ H0.out H1.out).mono ?_; rintro e W5 ⟨rfl, hb5⟩; replace H0 := Lib.hid (below_row hb5 H0.out); replace H1 := Lib.hid (below_row hb5 H1.out); replace H2 := Lib.hid (below_row hb5 H2.out); replace H3 := Lib.hid (below_row hb5 H3.out); have hd := cell_of_i16s H3.out k (by rw [HPNL.out]; exact hlt); have hf := frozen_of_row _ b3 k _ _ H3.out; replace hbq := hbq.trans (hb5.mono hbq.size); clear hb5)
              go_roundw
              case rel => exact ⟨m + 1, by omega, by simp; omega, by rw [(R3.out (by simp) (by simp)).1], H0.out, H1.out, H2.out, by rw [(R3.out (by simp) (by simp)).2]; exact H3.out, hbq⟩
              case measure => simp [intOf]; omega
            | eq =>
              go_wp2_with (go_at_call 28; refine (HX.out _ _ _ H0.out H1.out).mono ?_; rintro e W5 ⟨rfl, hb5⟩; replace H0 := Lib.hid (below_row hb5 H0.out); replace H1 := Lib.hid (below_row hb5 H1.out); replace H2 := Lib.hid (below_row hb5 H2.out); replace H3 := Lib.hid (below_row hb5 H3.out); have hd := cell_of_i16s H3.out k (by rw [HPNL.out]; exact hlt); have hf := frozen_of_row _ b3 k _ _ H3.out; replace hbq := hbq.trans (hb5.mono hbq.size); clear hb5)
              go_roundw
              case rel => exact ⟨m + 1, by omega, by simp; omega, by rw [(R3.out (by simp) (by simp)).1], H0.out, H1.out, H2.out, by rw [(R3.out (by simp) (by simp)).2]; exact H3.out, hbq⟩
              case measure => simp [intOf]; omega
        · obtain rfl : m = 129 := by omega
          clear HRD HLK hlm
          by_cases htk : T k = []
          · have ho := HE1.out htk
            obtain ⟨e1, e2, e3⟩ := HTE.out htk
            subst e1 e2 e3
            clear HE1 HE2 HTE
            generalize bz 129 = bx at *
            go_wp2_with (first | (refine wpList_buildL rfl 30 _ rfl _ rfl [] rfl (i16s zP) HZB.out ?_) | (refine wpList_store_part rfl 30 _ _ rfl b2 0 (i16s zP) rfl rfl 30 (i16s zP) H2.out info_plan (Nat.le_refl _) zP_one ?_; rw [laid_all _ _ (by rfl)]))
            refine bodyPost_ret (results_plan rfl _ _ b2 zP zP_len rfl (setRow_heap _ _ _ _ _ _ H2.out)) rfl ?_
            exact ⟨rfl, below_setRow hbq hle2 _⟩
          · obtain ⟨e1, e2, o, ho, hol⟩ := HE2.out htk
            have hadd := HAD.out
            rw [← e1] at hadd
            rw [e2] at H3
            have HNT := Lib.hid (HNE1.out htk)
            clear HE1 HE2 HTE HAD htk e1 e2
            generalize bz 129 = bx at *
            have radd : ∀ T w, (binOp .add T (.float .f32 (sumTo f k)) (.float .f32 bx)).run Tryz.prog w = .ok (.float .f32 (sumTo f (k + 1))) w := fun T w => run_float_arith w .add T .f32 _ _ _ hadd
            cases o with
            | lt => exact absurd rfl hol
            | eq =>
              go_wp2
              go_roundw
              case rel => exact ⟨k + 1, by omega, by go_num, by trivial, H0.out, H1.out, H2.out, H3.out, hbq, HNT.out⟩
              case measure => simp [intOf]; omega
            | gt =>
              go_wp2
              go_roundw
              case rel => exact ⟨k + 1, by omega, by go_num, by trivial, H0.out, H1.out, H2.out, H3.out, hbq, HNT.out⟩
              case measure => simp [intOf]; omega
    · have e24 : k = 24 := by omega
      obtain ⟨e1, e2, e3⟩ := HAA.out (fun h hh => HNE0.out h (by omega))
      subst e1 e2 e3
      rw [HP.out k e24] at H3
      have hs24 := HSB.out k e24
      rw [hs24]
      have z1 : ¬ (k : Int) < 24 := by omega
      clear e24 hlt hk hs24 HP HSB HAA HBB HNE0 HWK HADD HFK HLT
      go_wp2_with (first | (refine wpList_load_part rfl 30 _ rfl b3 0 24 rfl 30 (i16s pl) (0, 0) _ H3.out Tryz.underlying30 rfl info_plan (by rw [i16s_size, HPL.out]; decide) (i16s pl) (i16s_all _ 24 HPL.out) ?_) | (refine wpList_store_part rfl 30 _ _ rfl b2 0 (i16s pl) rfl rfl 30 (i16s zP) H2.out (by rw [i16s_size, HPL.out]; exact info_plan) (by rw [i16s_size, i16s_size, HPL.out]; decide) (i16s_one _) ?_; rw [laid_all _ _ (by rw [i16s_size, i16s_size, HPL.out]; rfl)]))
      refine bodyPost_ret (results_plan rfl _ _ b2 pl HPL.out rfl (setRow_heap _ _ _ _ _ _ H2.out)) rfl ?_
      exact ⟨rfl, below_setRow hb hle2 _⟩

end Go.Proofs.YtmniodfdoidffaaGreatDoor
