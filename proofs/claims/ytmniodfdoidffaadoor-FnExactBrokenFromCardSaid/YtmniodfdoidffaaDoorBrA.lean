/-
  Which stripes of two floors have the same light; the model of BrokenFrom.
-/
import Derived.Test.YtmniodfdoidffaaDoorFoB
import Derived.Test.YtmniodfdoidffaaDoorFlS
namespace Go.Proofs.YtmniodfdoidffaaDoor
open Go.ChangeShapes Go.WideShapes Go.ChangeAt Go.RowKit Go.Deep Go.Joins

attribute [local go_sem] run_store_f

theorem two_newB (w : World) (a b : Obj) : ((w.alloc a).alloc b).heap[w.heap.size]? = some a ∧ ((w.alloc a).alloc b).heap[w.heap.size + 1]? = some b ∧ Below w.heap.size w ((w.alloc a).alloc b) := by
  have hb : Below w.heap.size w (w.alloc a) := (Below.refl _ _).alloc (Nat.le_refl _) _
  refine ⟨below_row ((Below.refl (w.alloc a).heap.size _).alloc (Nat.le_refl _) b) (heap_alloc_new w a), ?_, hb.alloc hb.size _⟩
  have := heap_alloc_new (w.alloc a) b
  rwa [World.size_alloc] at this

def alP (xs ys : List Nat) (k : Nat) : Bool := sameB (xs[k]?.getD 0) (ys[k]?.getD 0)

theorem SameNumber_b (a b : Nat) (r : Bool) (hr : sameB a b = r) (w : World) : Calls Tryd.prog 20 #[.float .f32 a, .float .f32 b] w fun e w' => e = .returned (.bool r) ∧ w = w' := by subst hr; exact SameNumber_is a b w

set_option maxRecDepth 100000 in
set_option maxHeartbeats 2000000 in
theorem alike_any (xs ys : List Nat) (hx : xs.length = 24) (hy : ys.length = 24) (w : World) :
    Calls Tryd.prog 137 #[.agg (f32s xs), .agg (f32s ys)] w fun e w' => e = .returned (.int .u32 (packP (alP xs ys) 24 : Int)) ∧ Below w.heap.size w w' := by
  have Hx := Lib.hid hx
  have Hy := Lib.hid hy
  have HI := Lib.hid (fun k hk w => run_index_f xs hx k hk w)
  have HP : Hid (∀ k, k ≤ 31 → (alP xs ys k = true → packP (alP xs ys) (k + 1) = (packP (alP xs ys) k ||| 2 ^ k)) ∧ (alP xs ys k = false → packP (alP xs ys) (k + 1) = packP (alP xs ys) k) ∧ (2 : Int) ^ k % 4294967296 = (2 : Int) ^ k ∧ bits .or .u32 (packP (alP xs ys) k : Int) ((2 : Int) ^ k) = ((packP (alP xs ys) k ||| 2 ^ k : Nat) : Int)) := fun k hk => packP_step (alP xs ys) k hk
  clear hx hy
  go_enter Tryd.func137, Tryd.ntmps137
  go_upto_region 1 with (fail)
  refine abs_code (fun W => W.heap[w.heap.size]? = some (.cells (f32s xs) 61 (0, 0)) ∧ W.heap[w.heap.size + 1]? = some (.cells (f32s ys) 61 (0, 0)) ∧ Below w.heap.size w W) ⟨(two_newB _ _ _).1, (two_newB _ _ _).2.1, (two_newB _ _ _).2.2⟩ ?_
  rintro W ⟨h0, h1, hb⟩
  generalize w.heap.size + 1 = b1 at *
  have H0 := Lib.hid h0
  have H1 := Lib.hid h1
  clear h0 h1
  go_upto_region 3 with (refine wpList_load_part rfl 61 _ rfl w.heap.size 0 24 rfl 61 (f32s xs) (0, 0) _ H0.out Tryd.underlying61 rfl info_floor (by rw [f32s_size, Hx.out]; decide) (f32s xs) (f32s_all _ 24 Hx.out) ?_)
  go_loopw [5, 9] (fun s i wr => ∃ k : Nat, k ≤ 24 ∧ i = .int .i64 k ∧ s = .int .u32 (packP (alP xs ys) k : Int) ∧ Below W.heap.size W wr) (fun _ i _ => 24 - (intOf i).toNat)
  case atStart => exact ⟨0, Nat.zero_le _, rfl, rfl, Below.refl _ _⟩
  case round =>
    obtain ⟨k, hk, rfl, rfl, hbw⟩ := hrel
    by_cases hlt : k < 24
    · have z1 : (k : Int) < 24 := by omega
      have z2 : (0 : Int) ≤ (k : Int) := by omega
      have hi := HI.out k hlt
      have qy := cell_of_f32s (below_row hbw H1.out) k (by rw [Hy.out]; exact hlt)
      obtain ⟨s1, s2, s3, s4⟩ := HP.out k (by omega)
      have he : alP xs ys k = sameB (xs[k]?.getD 0) (ys[k]?.getD 0) := rfl
      have S1 := Lib.hid s1
      have S2 := Lib.hid s2
      have S3 := Lib.hid s3
      have S4 := Lib.hid s4
      have HE := Lib.hid he
      clear s1 s2 s3 s4 he
      generalize xs[k]?.getD 0 = x at *
      generalize ys[k]?.getD 0 = y at *
      have z4 : IntKind.u64.wrap (k : Int) = (k : Int) := by rw [IntWalk.u64_in _ (by omega)]
      have z5 : (k : Int) ≤ 32 := by omega
      rcases hs : sameB x y with _ | _
      · have e := hs
        clear hs
        have E := Lib.hid e
        clear e
        go_wp2_with (first | (go_at_call 20; refine (SameNumber_b x y false E.out _).mono ?_; rintro e w' ⟨rfl, rfl⟩))
        go_roundw
        case rel => exact ⟨k + 1, by omega, by go_num, by rw [S2.out (HE.out.trans E.out)], hbw⟩
        case measure => simp [intOf]; omega
      · have e := hs
        clear hs
        have E := Lib.hid e
        clear e
        go_wp2_with (first | (go_at_call 20; refine (SameNumber_b x y true E.out _).mono ?_; rintro e w' ⟨rfl, rfl⟩))
        go_roundw
        case rel => exact ⟨k + 1, by omega, by go_num, by rw [S3.out, S4.out, S1.out (HE.out.trans E.out)], hbw⟩
        case measure => simp [intOf]; omega
    · obtain rfl : k = 24 := by omega
      go_wp2
      go_ret
      exact ⟨rfl, hb.trans (hbw.mono hb.size)⟩

/-- Whether a stripe's light is one that can be. -/
def gdP (xs : List Nat) (wh hg m : Nat) (k : Nat) : Bool := if k < m then (sameB (xs[k]?.getD 0) wh || sameB (xs[k]?.getD 0) hg) else sameB (xs[k]?.getD 0) 0

/-- Whether a slat is told to be broken. -/
def sbP (xs : List Nat) (wh hg m : Nat) (k : Nat) : Bool := decide (k < m) && (!sameB (xs[k]?.getD 0) wh && sameB (xs[k]?.getD 0) hg)

def gdA (xs : List Nat) (wh hg m : Nat) : Bool := (List.range 24).all (gdP xs wh hg m)

theorem gdA_no {xs : List Nat} {wh hg m k : Nat} (hk : k < 24) (h : gdP xs wh hg m k = false) : gdA xs wh hg m = false := by
  unfold gdA
  rw [List.all_eq_false]
  exact ⟨k, List.mem_range.2 hk, by rw [h]; decide⟩

def gdR (xs : List Nat) (wh hg m : Nat) : Int := if gdA xs wh hg m then (packP (sbP xs wh hg m) 24 : Int) else 0

def gdC (xs : List Nat) (wh hg m : Nat) : Int := if gdA xs wh hg m then 0 else 4

theorem gdR_no {xs : List Nat} {wh hg m : Nat} (h : gdA xs wh hg m = false) : gdR xs wh hg m = 0 ∧ gdC xs wh hg m = 4 := by unfold gdR gdC; rw [h]; exact ⟨rfl, rfl⟩

theorem gdR_yes {xs : List Nat} {wh hg m : Nat} (h : gdA xs wh hg m = true) : gdR xs wh hg m = (packP (sbP xs wh hg m) 24 : Int) ∧ gdC xs wh hg m = 0 := by unfold gdR gdC; rw [h]; exact ⟨rfl, rfl⟩

theorem gdA_yes {xs : List Nat} {wh hg m : Nat} (h : ∀ k, k < 24 → gdP xs wh hg m k = true) : gdA xs wh hg m = true := by
  unfold gdA
  rw [List.all_eq_true]
  exact fun k hk => h k (List.mem_range.1 hk)

set_option maxRecDepth 100000 in
set_option maxHeartbeats 4000000 in
theorem sBroken_yes (n : Int) (wd gp : Nat) (t : Int) (sh : Nat) (T0 : -32768 ≤ t) (T1 : t ≤ 32767) (N0 : -128 ≤ n) (N1 : n ≤ 127) (ok : BlOk n wd gp t sh) (hk : okBl n wd gp t sh = true) (h : Int) (hi : inI 1 64 h = true) (xs : List Nat) (hx : xs.length = 24) (w : World) :
    Calls Tryd.prog 34 #[.agg (blindC n wd gp t sh), .int .i64 h, .agg (f32s xs)] w fun e w' => e = .returned (.tuple #[.int .u32 (gdR xs (opnB wd gp t h) (opnB wd gp (hgT t) h) (mB n).toNat), .int .i64 (gdC xs (opnB wd gp t h) (opnB wd gp (hgT t) h) (mB n).toNat)]) ∧ Below w.heap.size w w' := by
  have Hi := Lib.hid hi
  have Hx := Lib.hid hx
  have Hc : Hid (codeC (okBl n wd gp t sh) true = 0) := by rw [hk]; rfl
  have hm0 := mB_le n
  have hm1 : 1 ≤ mB n := by
    have := ok.1
    unfold mB; split <;> omega
  have HO1 : Hid (∀ (g : Nat) (W' : World), W'.heap[g]? = some (.cells (blindC n wd gp t sh) 59 (0, 0)) → Calls Tryd.prog 80 #[.pointer (some ⟨g, 0, none⟩), .int .i64 h] W' fun e w' => e = .returned (.float .f32 (opnB wd gp t h)) ∧ Below W'.heap.size W' w') := fun g W' hg => l02Open_any n wd gp t sh ok h (inI_get hi).1 (inI_get hi).2 g 59 (0, 0) W' hg
  have HO2 := Lib.hid (fun w => l07Hanging_any n wd gp t sh ok h (inI_get hi).1 (inI_get hi).2 w)
  obtain ⟨M, hM⟩ := Int.eq_ofNat_of_zero_le (by omega : 0 ≤ mB n)
  rw [hM] at hm0 hm1
  rw [hM, Int.toNat_natCast]
  have HM := Lib.hid hM
  clear hM ok hk hi hx
  generalize opnB wd gp t h = wh at *
  generalize opnB wd gp (hgT t) h = hg at *
  go_enter Tryd.func34, Tryd.ntmps34
  go_upto_region 1 with (fail)
  refine abs_code (fun W => W.heap[w.heap.size]? = some (.cells (blindC n wd gp t sh) 59 (0, 0)) ∧ W.heap[w.heap.size + 1]? = some (.cells (f32s xs) 61 (0, 0)) ∧ Below w.heap.size w W) ⟨(two_newB _ _ _).1, (two_newB _ _ _).2.1, (two_newB _ _ _).2.2⟩ ?_
  rintro W ⟨h0, h1, hb⟩
  generalize w.heap.size + 1 = b1 at *
  have H0 := Lib.hid h0
  have H1 := Lib.hid h1
  clear h0 h1
  go_upto_region 9 with (first | (refine wpList_load_part rfl 59 _ rfl w.heap.size 0 5 rfl 59 (blindC n wd gp t sh) (0, 0) _ H0.out Tryd.underlying59 rfl info_blind (blind_fits _ _ _ _ _) _ (blind_all _ _ _ _ _) ?_) | (go_at_call 79; refine (l02Up_is h true Hi.out _).mono ?_; rintro e w' ⟨rfl, rfl⟩) | (go_at_call 78; refine (l02Asked_is n wd gp t sh T0 T1 N0 N1 w.heap.size _ _ true 0 Hc.out _ H0.out).mono ?_; rintro e w' ⟨rfl, rfl⟩) | (go_at_call 82; refine (l07Looked_any n wd gp t sh N0 N1 _ 59 (0, 0) _ H0.out).mono ?_; rw [HM.out]; rintro e w' ⟨rfl, rfl⟩) | (go_at_call 80; refine (HO1.out _ _ H0.out).mono ?_; rintro e W1 ⟨rfl, hb1⟩; replace H0 := Lib.hid (below_row hb1 H0.out); replace H1 := Lib.hid (below_row hb1 H1.out); replace hb := hb.trans (hb1.mono hb.size); clear hb1) | (go_at_call 81; refine (HO2.out _).mono ?_; rintro e W2 ⟨rfl, hb1⟩; replace H0 := Lib.hid (below_row hb1 H0.out); replace H1 := Lib.hid (below_row hb1 H1.out); replace hb := hb.trans (hb1.mono hb.size); clear hb1))
  clear H0 HO1 HO2 Hi Hc
  have HP : Hid (∀ k, k ≤ 31 → (sbP xs wh hg M k = true → packP (sbP xs wh hg M) (k + 1) = (packP (sbP xs wh hg M) k ||| 2 ^ k)) ∧ (sbP xs wh hg M k = false → packP (sbP xs wh hg M) (k + 1) = packP (sbP xs wh hg M) k) ∧ (2 : Int) ^ k % 4294967296 = (2 : Int) ^ k ∧ bits .or .u32 (packP (sbP xs wh hg M) k : Int) ((2 : Int) ^ k) = ((packP (sbP xs wh hg M) k ||| 2 ^ k : Nat) : Int)) := fun k hk => packP_step (sbP xs wh hg M) k hk
  go_loopw [12, 13] (fun s i wr => ∃ k : Nat, k ≤ 24 ∧ i = .int .i64 k ∧ s = .int .u32 (packP (sbP xs wh hg M) k : Int) ∧ (∀ j, j < k → gdP xs wh hg M j = true) ∧ Below W2.heap.size W2 wr) (fun _ i _ => 24 - (intOf i).toNat)
  case atStart => exact ⟨0, Nat.zero_le _, rfl, rfl, fun j hj => absurd hj (Nat.not_lt_zero j), Below.refl _ _⟩
  case round =>
    obtain ⟨k, hk, rfl, rfl, hgd, hbw⟩ := hrel
    by_cases hlt : k < 24
    · have z1 : (k : Int) < 24 := by omega
      have z2 : (0 : Int) ≤ (k : Int) := by omega
      have qy := cell_of_f32s (below_row hbw H1.out) k (by rw [Hx.out]; exact hlt)
      obtain ⟨s1, s2, s3, s4⟩ := HP.out k (by omega)
      have hg1 : gdP xs wh hg M k = if k < M then (sameB (xs[k]?.getD 0) wh || sameB (xs[k]?.getD 0) hg) else sameB (xs[k]?.getD 0) 0 := rfl
      have hs1 : sbP xs wh hg M k = (decide (k < M) && (!sameB (xs[k]?.getD 0) wh && sameB (xs[k]?.getD 0) hg)) := rfl
      have S1 := Lib.hid s1
      have S2 := Lib.hid s2
      have S3 := Lib.hid s3
      have S4 := Lib.hid s4
      clear s1 s2 s3 s4
      generalize xs[k]?.getD 0 = x at *
      have z4 : IntKind.u64.wrap (k : Int) = (k : Int) := by rw [IntWalk.u64_in _ (by omega)]
      have z5 : (k : Int) ≤ 32 := by omega
      by_cases hkm : k < M
      · have z6 : ¬ (M : Int) ≤ (k : Int) := by omega
        have z7 : (k : Int) < (M : Int) := by omega
        rw [if_pos hkm] at hg1
        rw [decide_eq_true hkm, Bool.true_and] at hs1
        rcases ha : sameB x wh with _ | _
        · have HA := Lib.hid (fun w => l01Same_is6a x wh _ ha w)
          rw [ha] at hg1 hs1
          rcases hc : sameB x hg with _ | _
          · have HC := Lib.hid (fun w => l01Same_is6a x hg _ hc w)
            rw [hc] at hg1 hs1
            have HG1 := Lib.hid hg1
            clear hg1 hs1 ha hc
            go_wp2_with (first | (go_at_call 56; (first | (with_reducible refine (HA.out _).mono ?_) | (with_reducible refine (HC.out _).mono ?_)); rintro e w' ⟨rfl, rfl⟩))
            go_ret2
            have hno := gdR_no (gdA_no hlt HG1.out)
            exact ⟨by rw [hno.1, hno.2]; rfl, hb.trans (hbw.mono hb.size)⟩
          · have HC := Lib.hid (fun w => l01Same_is6a x hg _ hc w)
            rw [hc] at hg1 hs1
            have HG1 := Lib.hid hg1
            have HS1 := Lib.hid hs1
            clear hg1 hs1 ha hc
            go_wp2_with (first | (go_at_call 56; (first | (with_reducible refine (HA.out _).mono ?_) | (with_reducible refine (HC.out _).mono ?_)); rintro e w' ⟨rfl, rfl⟩))
            go_roundw
            case rel => exact ⟨k + 1, by omega, by go_num, by rw [S3.out, S4.out, S1.out HS1.out], fun j hj => by
              by_cases e : j = k
              · rw [e]; exact HG1.out
              · exact hgd j (by omega), hbw⟩
            case measure => simp [intOf]; omega
        · have HA := Lib.hid (fun w => l01Same_is6a x wh _ ha w)
          have HC := HA
          rw [ha] at hg1 hs1
          have HG1 := Lib.hid hg1
          have HS1 := Lib.hid hs1
          clear hg1 hs1 ha
          go_wp2_with (first | (go_at_call 56; (first | (with_reducible refine (HA.out _).mono ?_) | (with_reducible refine (HC.out _).mono ?_)); rintro e w' ⟨rfl, rfl⟩))
          go_roundw
          case rel => exact ⟨k + 1, by omega, by go_num, by rw [S2.out HS1.out], fun j hj => by
            by_cases e : j = k
            · rw [e]; exact HG1.out
            · exact hgd j (by omega), hbw⟩
          case measure => simp [intOf]; omega
      · have z6 : (M : Int) ≤ (k : Int) := by omega
        have z7 : ¬ (k : Int) < (M : Int) := by omega
        rw [if_neg hkm] at hg1
        rw [decide_eq_false hkm, Bool.false_and] at hs1
        have HS1 := Lib.hid hs1
        rcases ha : sameB x 0 with _ | _
        · have HA := Lib.hid (fun w => l01Same_is6a x 0 _ ha w)
          have HC := HA
          rw [ha] at hg1
          have HG1 := Lib.hid hg1
          clear hg1 hs1 ha
          go_wp2_with (first | (go_at_call 56; (first | (with_reducible refine (HA.out _).mono ?_) | (with_reducible refine (HC.out _).mono ?_)); rintro e w' ⟨rfl, rfl⟩))
          go_ret2
          have hno := gdR_no (gdA_no hlt HG1.out)
          exact ⟨by rw [hno.1, hno.2]; rfl, hb.trans (hbw.mono hb.size)⟩
        · have HA := Lib.hid (fun w => l01Same_is6a x 0 _ ha w)
          have HC := HA
          rw [ha] at hg1
          have HG1 := Lib.hid hg1
          clear hg1 hs1 ha
          go_wp2_with (first | (go_at_call 56; (first | (with_reducible refine (HA.out _).mono ?_) | (with_reducible refine (HC.out _).mono ?_)); rintro e w' ⟨rfl, rfl⟩))
          go_roundw
          case rel => exact ⟨k + 1, by omega, by go_num, by rw [S2.out HS1.out], fun j hj => by
            by_cases e : j = k
            · rw [e]; exact HG1.out
            · exact hgd j (by omega), hbw⟩
          case measure => simp [intOf]; omega
    · obtain rfl : k = 24 := by omega
      go_wp2
      go_ret2
      have hga := gdR_yes (gdA_yes hgd)
      exact ⟨by rw [hga.1, hga.2]; rfl, hb.trans (hbw.mono hb.size)⟩

end Go.Proofs.YtmniodfdoidffaaDoor
