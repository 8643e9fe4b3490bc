/-
  BrH, PsD, DkA, Box, SrG.
-/
import Derived.Test.YtmbgmpeiicjlaaaGreatDoorBrGMg
import Derived.Test.YtmbgmpeiicjlaaaGreatDoorMt8
import Derived.Test.YtmbgmpeiicjlaaaGreatDoorMt2
import Derived.Test.YtmbgmpeiicjlaaaGreatDoorMt3
import Derived.Test.YtmbgmpeiicjlaaaGreatDoorMt1
import Derived.Deep.Slices
import Derived.ChangeSlices
import Derived.ChangeShapes
import Derived.ChangeSame
import Derived.WalkSpells
import Derived.Test.YtmbgmpeiicjlaaaGreatDoorMt10

namespace Go.Proofs.YtmbgmpeiicjlaaaGreatDoor

open Go.ChangeShapes Go.WideShapes Go.ChangeAt Go.RowKit Go.Deep Go.Joins

attribute [local go_sem] run_store_f

set_option maxRecDepth 100000 in
set_option maxHeartbeats 4000000 in
theorem iBroken_yes (n : Int) (wd gp : Nat) (t : Int) (sh : Nat) (T0 : -32768 ≤ t) (T1 : t ≤ 32767) (ok : BlOk n wd gp t sh) (hk : okBl n wd gp t sh = true) (h : Int) (hi : inI 1 64 h = true) (xs : List Nat) (hx : xs.length = 24) (w : World) (hE : ErrT w) :
    Calls Tryz.prog 11 #[.agg (blindC n wd gp t sh), .int .i64 h, .agg (f32s xs)] w fun e w' => e = .returned (.tuple #[.int .u32 (gdR xs (opnB wd gp t h) (opnB wd gp (hgT t) h) (mB n).toNat), .int .i64 (gdC xs (opnB wd gp t h) (opnB wd gp (hgT t) h) (mB n).toNat)]) ∧ Below w.heap.size w w' := by
  have HB := Lib.hid (fun w => brokenFrom_any n wd gp t sh ok h (inI_get hi).1 (inI_get hi).2 xs hx w)
  have HC := Lib.hid (fun w hE => codeOfDay_any (brRf xs (opnB wd gp t h) (opnB wd gp (hgT t) h) (mB n).toNat) (brRf_ok xs hx _ _ _) w hE)
  rw [brRf_code] at HC
  have Hi := Lib.hid hi
  have Hx := Lib.hid hx
  have HE0 := Lib.hid hE
  obtain ⟨c, hc0⟩ : ∃ c : Int, c = 0 := ⟨0, rfl⟩
  have Hc : Hid (codeC (okBl n wd gp t sh) true = c) := by rw [hk, hc0]; rfl
  subst hc0
  generalize gdR xs (opnB wd gp t h) (opnB wd gp (hgT t) h) (mB n).toNat = rr at *
  generalize gdC xs (opnB wd gp t h) (opnB wd gp (hgT t) h) (mB n).toNat = rc at *
  generalize rfV (brRf xs (opnB wd gp t h) (opnB wd gp (hgT t) h) (mB n).toNat) = rv at *
  clear ok hk hi hx hE
  go_enter Tryz.func11, Tryz.ntmps11
  go_upto_region 1 with (fail)
  refine abs_code (fun W => W.heap[w.heap.size]? = some (.cells (blindC n wd gp t sh) 28 (0, 0)) ∧ W.heap[w.heap.size + 1]? = some (.cells (f32s xs) 35 (0, 0)) ∧ Below w.heap.size w W) ⟨(two_newB _ _ _).1, (two_newB _ _ _).2.1, (two_newB _ _ _).2.2⟩ ?_
  rintro W ⟨h0, h1, hb⟩
  generalize w.heap.size + 1 = b1 at *
  have H0 := Lib.hid h0
  have H1 := Lib.hid h1
  clear h0 h1
  refine wp_region_held_drew (S := (fun V => Below W.heap.size W V)) (by kernel_rfl) (Below.refl _ _).drew (fun hHeld => ?_)
  refine take_op (i := 0) (d := 11) (v := .agg (blindC n wd gp t sh)) rfl rfl (by kernel_rfl) (by kernel_rfl) (by kernel_rfl) (fun _ _ _ h => h) (yields_row (by rfl) 28 (.tmp 3) (by rfl) w.heap.size 0 5 (by rfl) 28 (blindC n wd gp t sh) (0, 0) _ (fun _ h => below_row h H0.out) Tryz.underlying28 rfl info_blind (blind_fits _ _ _ _ _) (blindC n wd gp t sh) (blind_all _ _ _ _ _)) hHeld ?_
  simp only [List.setIfInBounds_toArray, List.set_cons_zero, List.set_cons_succ]
  refine take_op (i := 1) (d := 12) (v := ?_) rfl rfl (by kernel_rfl) (by kernel_rfl) (by kernel_rfl) (fun _ _ _ h => h) (Or.inl ⟨by rfl, ?hy1u71⟩) hHeld ?rest1u71
  case hy1u71 =>
    intro w' hS'
    go_simp
    try with_reducible rfl
  simp only [List.setIfInBounds_toArray, List.set_cons_zero, List.set_cons_succ]
  refine wpAnyH_ready (rs := [2]) (by kernel_rfl) (by simp) ?_
  refine AllReadyH.cons rfl (fun K hK => ?_) AllReadyH.nil
  go_simp
  refine (isHeight_is h true Hi.out _).mono ?_
  rintro e w' ⟨rfl, rfl⟩
  refine hK.out _ _ (hHeld) (fun hHeld2 => ?_)
  clear hK K
  replace hHeld := hHeld2
  clear hHeld2
  refine wpAnyH_ready (rs := [3]) (by kernel_rfl) (by simp) ?_
  refine AllReadyH.cons rfl (fun K hK => ?_) AllReadyH.nil
  go_simp
  refine (checkBlind_is n wd gp t sh T0 T1 true 0 Hc.out _).mono ?_
  rintro e W1 ⟨rfl, hb1⟩
  refine hK.out _ _ (hHeld.trans (hb1.mono hHeld.size)) (fun hHeld2 => ?_)
  clear hK K
  replace hHeld := hHeld2
  clear hHeld2
  clear hb1
  refine take_op (i := 4) (d := 8) (v := ?_) rfl rfl (by kernel_rfl) (by kernel_rfl) (by kernel_rfl) (fun _ _ _ h => h) (Or.inl ⟨by rfl, ?hy4u72⟩) hHeld ?rest4u72
  case hy4u72 =>
    intro w' hS'
    go_simp
    try with_reducible rfl
  simp only [List.setIfInBounds_toArray, List.set_cons_zero, List.set_cons_succ]
  refine wpAnyH_done (by kernel_rfl) ?_ _
  replace H0 := Lib.hid (below_row hHeld H0.out)
  replace H1 := Lib.hid (below_row hHeld H1.out)
  replace hb := hb.trans (hHeld.mono hb.size)
  clear hHeld
  go_wp2_with (first | (refine wpList_load_part rfl 28 _ rfl w.heap.size 0 5 rfl 28 (blindC n wd gp t sh) (0, 0) _ H0.out Tryz.underlying28 rfl info_blind (blind_fits _ _ _ _ _) _ (blind_all _ _ _ _ _) ?_) | (refine wpList_load_part rfl 35 _ rfl b1 0 24 rfl 35 (f32s xs) (0, 0) _ H1.out Tryz.underlying35 rfl info_floor (by rw [f32s_size, Hx.out]; decide) (f32s xs) (f32s_all _ 24 Hx.out) ?_) | (go_at_call 38; refine (HB.out _).mono ?_; rintro e W5 ⟨rfl, hb1⟩; replace hb := hb.trans (hb1.mono hb.size); clear hb1) | (go_at_call 39; refine (HC.out _ (errT_below HE0.out hb)).mono ?_; rintro e W6 ⟨rfl, hb1⟩; replace hb := hb.trans (hb1.mono hb.size); clear hb1))
  go_ret2
  exact ⟨rfl, hb⟩

end Go.Proofs.YtmbgmpeiicjlaaaGreatDoor

namespace Go.Proofs.YtmbgmpeiicjlaaaGreatDoor

open Go.ChangeShapes Go.WideShapes Go.ChangeAt Go.RowKit

set_option maxRecDepth 100000 in
set_option maxHeartbeats 2000000 in
theorem implPassDay_yes (n : Int) (wd gp : Nat) (t : Int) (sh : Nat) (hs ts : List Int) (hh : hs.length = 24) (ht : ts.length = 24) (bw : BlWf n wd gp t sh) (facing : Int) (hk : okBl n wd gp t sh = true) (ho : okB hs ts = true) (h3 : inF facing = true) (w : World) :
    Calls Tryz.prog 24 #[.agg (blindC n wd gp t sh), .agg (sunC hs ts), .int .i64 facing] w fun e w' => e = .returned (.tuple #[.float .f32 (sumTo (fun h => winB wd gp t sh hs ts (h : Int) facing) 24), .int .i64 0]) ∧ Below w.heap.size w w' := by
  obtain ⟨T0, T1⟩ := blwf_t bw
  have OK := blok_of bw hk
  have HP := Lib.hid (fun w => passer_any n wd gp t sh OK w)
  have HO := Lib.hid (fun p1 p2 W c1 c2 => windowOver_is n wd gp t sh hs ts hh ht OK facing ho h3 p1 p2 W c1 c2)
  have Hc : Hid (codeBS (okBl n wd gp t sh) (okB hs ts) true = 0) := by rw [hk, ho]; rfl
  have Hf := Lib.hid h3
  have Hh := Lib.hid hh
  have Ht := Lib.hid ht
  generalize sumTo (fun h => winB wd gp t sh hs ts (h : Int) facing) 24 = D at *
  clear OK hk ho h3 hh ht bw
  go_enter Tryz.func24, Tryz.ntmps24
  go_upto_region 1 with (fail)
  refine abs_world (fun W => W.heap[w.heap.size]? = some (.cells (blindC n wd gp t sh) 28 (0, 0)) ∧ W.heap[w.heap.size + 1]? = some (.cells (sunC hs ts) 46 (0, 0)) ∧ Below w.heap.size w W) ⟨heap_alloc2_old _ _ _, heap_alloc2_new _ _ _, ((Below.refl _ _).alloc (Nat.le_refl _) _).alloc (by simp) _⟩ ?_
  rintro W ⟨h0, h1, hb⟩
  generalize w.heap.size + 1 = g2 at *
  refine wp_region_held_drew (S := (fun W => W.heap[w.heap.size]? = some (.cells (blindC n wd gp t sh) 28 (0, 0)) ∧ W.heap[g2]? = some (.cells (sunC hs ts) 46 (0, 0)) ∧ Below w.heap.size w W)) (by kernel_rfl) ⟨h0, h1, hb.drew⟩ (fun hHeld => ?_)
  refine take_op (i := 0) (d := 9) (v := .agg (blindC n wd gp t sh)) rfl rfl (by kernel_rfl) (by kernel_rfl) (by kernel_rfl) (fun _ _ _ h => h) (yields_row (by rfl) 28 (.tmp 3) (by rfl) w.heap.size 0 5 (by rfl) 28 (blindC n wd gp t sh) (0, 0) _ (fun _ h => h.1) Tryz.underlying28 rfl info_blind (blind_fits _ _ _ _ _) (blindC n wd gp t sh) (blind_all _ _ _ _ _)) hHeld ?_
  simp only [List.setIfInBounds_toArray, List.set_cons_zero, List.set_cons_succ]
  refine take_op (i := 1) (d := 10) (v := .agg (sunC hs ts)) rfl rfl (by kernel_rfl) (by kernel_rfl) (by kernel_rfl) (fun _ _ _ h => h) (yields_row (by rfl) 46 (.tmp 4) (by rfl) g2 0 48 (by rfl) 46 (sunC hs ts) (0, 0) _ (fun _ h => h.2.1) Tryz.underlying46 rfl info_sun (sun_fits _ _ Hh.out Ht.out) (sunC hs ts) (sun_all _ _ Hh.out Ht.out)) hHeld ?_
  simp only [List.setIfInBounds_toArray, List.set_cons_zero, List.set_cons_succ]
  refine take_op (i := 2) (d := 11) (v := ?_) rfl rfl (by kernel_rfl) (by kernel_rfl) (by kernel_rfl) (fun _ _ _ h => h) (Or.inl ⟨by rfl, ?hy2u24⟩) hHeld ?rest2u24
  case hy2u24 =>
    intro w' hS'
    go_simp
    try with_reducible rfl
  simp only [List.setIfInBounds_toArray, List.set_cons_zero, List.set_cons_succ]
  refine wpAnyH_ready (rs := [3]) (by kernel_rfl) (by simp) ?_
  refine AllReadyH.cons rfl (fun K hK => ?_) AllReadyH.nil
  go_simp
  refine (isFacing_is facing true Hf.out _).mono ?_
  rintro e w' ⟨rfl, rfl⟩
  refine hK.out _ _ (hHeld) (fun hHeld2 => ?_)
  clear hK K
  replace hHeld := hHeld2
  clear hHeld2
  refine wpAnyH_ready (rs := [4]) (by kernel_rfl) (by simp) ?_
  refine AllReadyH.cons rfl (fun K hK => ?_) AllReadyH.nil
  go_simp
  refine (checkBS_is n wd gp t sh hs ts Hh.out Ht.out T0 T1 true 0 Hc.out _).mono ?_
  rintro e W1 ⟨rfl, hb1⟩
  refine hK.out _ _ (⟨below_row hb1 hHeld.1, below_row hb1 hHeld.2.1, hHeld.2.2.trans (hb1.mono hHeld.2.2.size)⟩) (fun hHeld2 => ?_)
  clear hK K
  replace hHeld := hHeld2
  clear hHeld2
  refine take_op (i := 5) (d := 8) (v := ?_) rfl rfl (by kernel_rfl) (by kernel_rfl) (by kernel_rfl) (fun _ _ _ h => h) (Or.inl ⟨by rfl, ?hy5u25⟩) hHeld ?rest5u25
  case hy5u25 =>
    intro w' hS'
    go_simp
    try with_reducible rfl
  simp only [List.setIfInBounds_toArray, List.set_cons_zero, List.set_cons_succ]
  refine wpAnyH_done (by kernel_rfl) ?_ _
  clear h0 h1 hb
  obtain ⟨h0, h1, hb⟩ := hHeld
  go_upto_region 4 with (fail)
  refine wp_region_held_drew (S := (fun W => W.heap[w.heap.size]? = some (.cells (blindC n wd gp t sh) 28 (0, 0)) ∧ W.heap[g2]? = some (.cells (sunC hs ts) 46 (0, 0)) ∧ Below w.heap.size w W)) (by kernel_rfl) ⟨h0, h1, hb.drew⟩ (fun hHeld => ?_)
  refine take_op (i := 0) (d := 17) (v := .agg (blindC n wd gp t sh)) rfl rfl (by kernel_rfl) (by kernel_rfl) (by kernel_rfl) (fun _ _ _ h => h) (yields_row (by rfl) 28 (.tmp 3) (by rfl) w.heap.size 0 5 (by rfl) 28 (blindC n wd gp t sh) (0, 0) _ (fun _ h => h.1) Tryz.underlying28 rfl info_blind (blind_fits _ _ _ _ _) (blindC n wd gp t sh) (blind_all _ _ _ _ _)) hHeld ?_
  simp only [List.setIfInBounds_toArray, List.set_cons_zero, List.set_cons_succ]
  refine take_op (i := 2) (d := 19) (v := .agg (sunC hs ts)) rfl rfl (by kernel_rfl) (by kernel_rfl) (by kernel_rfl) (fun _ _ _ h => h) (yields_row (by rfl) 46 (.tmp 4) (by rfl) g2 0 48 (by rfl) 46 (sunC hs ts) (0, 0) _ (fun _ h => h.2.1) Tryz.underlying46 rfl info_sun (sun_fits _ _ Hh.out Ht.out) (sunC hs ts) (sun_all _ _ Hh.out Ht.out)) hHeld ?_
  simp only [List.setIfInBounds_toArray, List.set_cons_zero, List.set_cons_succ]
  refine take_op (i := 3) (d := 20) (v := ?_) rfl rfl (by kernel_rfl) (by kernel_rfl) (by kernel_rfl) (fun _ _ _ h => h) (Or.inl ⟨by rfl, ?hy3u21⟩) hHeld ?rest3u21
  case hy3u21 =>
    intro w' hS'
    go_simp
    try with_reducible rfl
  simp only [List.setIfInBounds_toArray, List.set_cons_zero, List.set_cons_succ]
  refine wpAnyH_ready (rs := [1]) (by kernel_rfl) (by simp) ?_
  refine AllReadyH.cons rfl (fun K hK => ?_) AllReadyH.nil
  go_simp
  refine (HP.out _).mono ?_
  rintro e W1 ⟨⟨v, rfl, p1, p2, rfl, c1, c2⟩, hb1⟩
  have C1 := Lib.hid c1
  have C2 := Lib.hid c2
  clear c1 c2
  refine hK.out _ _ (⟨below_row hb1 hHeld.1, below_row hb1 hHeld.2.1, hHeld.2.2.trans (hb1.mono hHeld.2.2.size)⟩) (fun hHeld2 => ?_)
  clear hK K
  replace hHeld := hHeld2
  clear hHeld2
  refine wpAnyH_ready (rs := [4]) (by kernel_rfl) (by simp) ?_
  refine AllReadyH.cons rfl (fun K hK => ?_) AllReadyH.nil
  go_simp
  refine (HO.out p1 p2 _ C1.out C2.out).mono ?_
  rintro e W2 ⟨rfl, hb2⟩
  refine hK.out _ _ (⟨below_row hb2 hHeld.1, below_row hb2 hHeld.2.1, hHeld.2.2.trans (hb2.mono hHeld.2.2.size)⟩) (fun hHeld2 => ?_)
  clear hK K
  replace hHeld := hHeld2
  clear hHeld2
  refine take_op (i := 5) (d := 6) (v := ?_) rfl rfl (by kernel_rfl) (by kernel_rfl) (by kernel_rfl) (fun _ _ _ h => h) (Or.inl ⟨by rfl, ?hy5u22⟩) hHeld ?rest5u22
  case hy5u22 =>
    intro w' hS'
    go_simp
    try with_reducible rfl
  simp only [List.setIfInBounds_toArray, List.set_cons_zero, List.set_cons_succ]
  refine take_op (i := 6) (d := 7) (v := ?_) rfl rfl (by kernel_rfl) (by kernel_rfl) (by kernel_rfl) (fun _ _ _ h => h) (Or.inl ⟨by rfl, ?hy6u23⟩) hHeld ?rest6u23
  case hy6u23 =>
    intro w' hS'
    go_simp
    try with_reducible rfl
  simp only [List.setIfInBounds_toArray, List.set_cons_zero, List.set_cons_succ]
  refine wpAnyH_done (by kernel_rfl) ?_ _
  have hbx := hHeld.2.2
  clear hHeld h0 h1 hb C1 C2 HP HO
  go_wp2
  go_ret2
  exact ⟨rfl, hbx⟩

end Go.Proofs.YtmbgmpeiicjlaaaGreatDoor

namespace Go.Proofs.YtmbgmpeiicjlaaaGreatDoor

open Go.ChangeShapes Go.WideShapes Go.ChangeAt Go.RowKit Go.Deep Go.Joins

attribute [local go_sem] run_store_f

/-- Whether a number is less. -/
def ltD (a b : Nat) : Bool := FloatKind.f32.format.order a b == some .lt

theorem lt_cases (a b : Nat) : (FloatKind.f32.format.order a b = some .lt ∧ ltD a b = true) ∨ (FloatKind.f32.format.order a b = some .eq ∧ ltD a b = false) ∨ (FloatKind.f32.format.order a b = some .gt ∧ ltD a b = false) ∨ (FloatKind.f32.format.order a b = none ∧ ltD a b = false) := by
  unfold ltD
  rcases FloatKind.f32.format.order a b with _ | (_ | _ | _) <;> simp <;> rfl

def darkP (xs : List Nat) (b : Nat) (k : Nat) : Bool := ltD (xs[k]?.getD 0) b

set_option maxRecDepth 100000 in
set_option maxHeartbeats 4000000 in
theorem iDark_yes (xs : List Nat) (hx : xs.length = 24) (b : Nat) (hb0 : partB b = true) (w : World) :
    Calls Tryz.prog 13 #[.agg (f32s xs), .float .f32 b] w fun e w' => e = .returned (.tuple #[.int .u32 (packP (darkP xs b) 24 : Int), .int .i64 0]) ∧ Below w.heap.size w w' := by
  have HB := Lib.hid (fun w => isPart_any b w)
  rw [hb0] at HB
  have Hx := Lib.hid hx
  have HI := Lib.hid (fun k hk w => run_index_f xs hx k hk w)
  have HP : Hid (∀ k, k ≤ 31 → (ltD (xs[k]?.getD 0) b = true → packP (darkP xs b) (k + 1) = (packP (darkP xs b) k ||| 2 ^ k)) ∧ (ltD (xs[k]?.getD 0) b = false → packP (darkP xs b) (k + 1) = packP (darkP xs b) k) ∧ (2 : Int) ^ k % 4294967296 = (2 : Int) ^ k ∧ bits .or .u32 (packP (darkP xs b) k : Int) ((2 : Int) ^ k) = ((packP (darkP xs b) k ||| 2 ^ k : Nat) : Int)) := fun k hk => packP_step (darkP xs b) k hk
  clear hx hb0
  go_enter Tryz.func13, Tryz.ntmps13
  go_upto_region 5 with (first | (go_at_call 42; refine (HB.out _).mono ?_; rintro e w' ⟨rfl, rfl⟩) | (refine wpList_load_part rfl 35 _ rfl w.heap.size 0 24 rfl 35 (f32s xs) (0, 0) _ (heap_alloc_new _ _) Tryz.underlying35 rfl info_floor (by rw [f32s_size, Hx.out]; decide) (f32s xs) (f32s_all _ 24 Hx.out) ?_))
  clear HB
  go_loopw [6, 13] (fun s i wr => ∃ k : Nat, k ≤ 24 ∧ i = .int .i64 k ∧ s = .int .u32 (packP (darkP xs b) k : Int) ∧ Below w.heap.size w wr) (fun _ i _ => 24 - (intOf i).toNat)
  case atStart => exact ⟨0, Nat.zero_le _, rfl, rfl, (Below.refl _ _).alloc (Nat.le_refl _) _⟩
  case round =>
    obtain ⟨k, hk, rfl, rfl, hb⟩ := hrel
    by_cases hlt : k < 24
    · have z1 : (k : Int) < 24 := by omega
      have z2 : (0 : Int) ≤ (k : Int) := by omega
      have hi := HI.out k hlt
      obtain ⟨s1, s2, s3, s4⟩ := HP.out k (by omega)
      have hg := lt_cases (xs[k]?.getD 0) b
      have S1 := Lib.hid s1
      have S2 := Lib.hid s2
      have S3 := Lib.hid s3
      have S4 := Lib.hid s4
      clear s1 s2 s3 s4
      generalize xs[k]?.getD 0 = x at *
      have z4 : IntKind.u64.wrap (k : Int) = (k : Int) := by rw [IntWalk.u64_in _ (by omega)]
      have z5 : (k : Int) ≤ 32 := by omega
      rcases hg with ⟨hg, e⟩ | ⟨hg, e⟩ | ⟨hg, e⟩ | ⟨hg, e⟩
      · have E := Lib.hid e
        clear e
        go_wp2
        go_roundw
        case rel => exact ⟨k + 1, by omega, by go_num, by rw [S3.out, S4.out, S1.out E.out], hb⟩
        case measure => simp [intOf]; omega
      · have E := Lib.hid e
        clear e
        go_wp2
        go_roundw
        case rel => exact ⟨k + 1, by omega, by go_num, by rw [S2.out E.out], hb⟩
        case measure => simp [intOf]; omega
      · have E := Lib.hid e
        clear e
        go_wp2
        go_roundw
        case rel => exact ⟨k + 1, by omega, by go_num, by rw [S2.out E.out], hb⟩
        case measure => simp [intOf]; omega
      · have E := Lib.hid e
        clear e
        go_wp2
        go_roundw
        case rel => exact ⟨k + 1, by omega, by go_num, by rw [S2.out E.out], hb⟩
        case measure => simp [intOf]; omega
    · obtain rfl : k = 24 := by omega
      go_wp2
      go_ret2
      exact ⟨rfl, hb⟩

end Go.Proofs.YtmbgmpeiicjlaaaGreatDoor

namespace Go.Proofs.YtmbgmpeiicjlaaaGreatDoor

open Go Go.RowKit

theorem wpList_load_partG {P : Program} {ops : Array Oper} {rest : List Oper} {o : Oper} {a : Act} {w : World} {Q : Exit → Act → World → Prop} (ty : TypeId) (x : Operand) (ho : o.op = .load ty x)
    (g off n : Nat) (hx : a.eval x = .pointer (some ⟨g, off, none⟩)) (hw : Region.wanted o (yielded ops a.tmps) = true) (t : TypeId) (cs : Array Value) (fr : Nat × Nat) (d : TypeDesc) (hg : w.heap[g]? = some (.cells cs t fr))
    (hu : P.underlying ty = some d) (hd : (match d with | .struct _ | .array _ _ => true | _ => false) = true) (hi : (P.info? ty).map (·.size) = some n) (hn : off + n ≤ cs.size)
    (vs : Array Value) (hvs : cs.extract off (off + n) = vs) (h : wpList P ops Q rest (a.put o.dst (.agg vs)) w) : wpList P ops Q (o :: rest) a w := by
  subst hvs
  refine wpList_step fun K hK => ?_
  simp only [hw, if_true]
  unfold Oper.wp execOp
  simp only [ho, hx, Instr.loadAt, Instr.sureAddr, Sem.run_bind, Sem.run_pure, Result.andThen_ok, run_loadVar_part w g off n t ty cs fr d hg hu hd hi hn]
  exact hK _ _ h

end Go.Proofs.YtmbgmpeiicjlaaaGreatDoor

namespace Go.Proofs.YtmbgmpeiicjlaaaGreatDoor

open Go.ChangeShapes Go.WideShapes Go.ChangeAt Go.RowKit

set_option maxRecDepth 100000 in
theorem open_byteS {H : Type} {enc : TypeId × Value → H} {W : World} {b0 base : Nat} {spare : Nat → Bool} {held : Bool} {r : Reach} {v : Value} {d : DataW H} {p : List MemPlace}
    (hv : Value.okWide Tryz.prog W r b0 22 v) (h : DataW.Trod enc Tryz.prog W base spare held 22 v d p) : ∃ a n cap, v = .slice a n cap ∧ BytesAt W W.heap.size (.slice a n cap) n := by
  obtain ⟨a0, len0, cap0, rfl⟩ := okWide_slice Tryz.underlying22 hv
  obtain ⟨fuel, hf⟩ := h
  rcases open_ints Tryz.underlying22 Tryz.underlying5 (by kernel_rfl) hf with ⟨hcs, _⟩ | ⟨a, len, cap, zs, hcs, _, hl, hm, hz, _, hcell, hwz⟩
  · simp [Value.cells] at hcs
    obtain ⟨rfl, rfl, rfl⟩ := hcs
    exact ⟨none, 0, 0, rfl, none, 0, rfl, Nat.le_refl _, by unfold maxLen; omega, fun i hi => absurd hi (Nat.not_lt_zero i)⟩
  · simp [Value.cells] at hcs
    obtain ⟨rfl, rfl, rfl⟩ := hcs
    have hlz : len0 ≤ zs.length := by rw [hz]; split <;> omega
    refine ⟨some a, len0, cap0, rfl, some a, cap0, rfl, by omega, hm, fun i hi => ?_⟩
    have hc := hcell i (by omega)
    have hsp : a.spot = none := by
      have := World.cell?_spot (hcell 0 (by omega))
      simpa [Addr.add] using this
    obtain ⟨g, o, spot⟩ := a
    obtain rfl : spot = none := hsp
    rw [addr_add] at hc
    have hw : (Lit.int .u8 (zs.getD i 0)).wf = true := by
      have e : zs.getD i 0 = zs[i]'(by omega) := by simp [List.getD, List.getElem?_eq_getElem (show i < zs.length by omega)]
      rw [e]
      exact hwz _ (List.getElem_mem _)
    generalize zs.getD i 0 = q at hw hc
    have hb : 0 ≤ q ∧ q ≤ 255 := by
      simp [Lit.wf, IntKind.min, IntKind.max, IntKind.signed, IntKind.bits] at hw
      omega
    have hlt := World.block_lt_of_cell? _ _ hc
    exact ⟨g, o, q, rfl, hlt, hb.1, hb.2, hc⟩

end Go.Proofs.YtmbgmpeiicjlaaaGreatDoor
