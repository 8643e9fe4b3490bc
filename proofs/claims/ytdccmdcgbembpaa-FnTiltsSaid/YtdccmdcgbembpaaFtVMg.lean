/-
  FtV.
-/
import Derived.Test.YtdccmdcgbembpaaMt1
import Derived.Test.YtdccmdcgbembpaaTfR
import Derived.Test.YtdccmdcgbembpaaWithinS

namespace Go.Proofs.Ytdccmdcgbembpaa
open Go.RowKit

attribute [local go_sem] run_store_f

def fnd (P : Nat → Bool) (k : Nat) : Bool := (List.range k).any (fun s => decide (64 ≤ s) && P s)

theorem fnd_succ (P : Nat → Bool) (k : Nat) : fnd P (k + 1) = (fnd P k || (decide (64 ≤ k) && P k)) := by simp [fnd, List.range_succ]

theorem fnd_no {P : Nat → Bool} {k : Nat} (h : fnd P k = false) {s : Nat} (h0 : 64 ≤ s) (h1 : s < k) : P s = false := by
  cases hp : P s with
  | false => rfl
  | true =>
    have : fnd P k = true := List.any_eq_true.2 ⟨s, List.mem_range.2 h1, by rw [hp, decide_eq_true h0]; rfl⟩
    rw [this] at h
    cases h

theorem cut_is (p : Int → Bool) : cutC (wantT p (tls 129)) = if fnd (fun s => p ((s : Int) - 64)) 129 then 0 else 6 := by
  cases h : fnd (fun s => p ((s : Int) - 64)) 129 with
  | true =>
    rw [if_pos rfl]
    obtain ⟨s, h1, h2⟩ := List.any_eq_true.1 h
    have h3 := List.mem_range.1 h1
    have h4 : (List.find? (fun k : Nat => p ((k : Int) - 64) && decide (0 ≤ (k : Int) - 64)) (List.range 129)).isSome = true := by
      rw [List.find?_isSome]
      refine ⟨s, h1, ?_⟩
      rw [Bool.and_eq_true] at h2
      have h5 := of_decide_eq_true h2.1
      have h6 : p ((s : Int) - 64) = true := h2.2
      rw [h6, decide_eq_true (by omega)]
      rfl
    unfold cutC
    rw [find_want, Option.isSome_map, h4]
    rfl
  | false =>
    rw [if_neg (by decide)]
    refine cut_none (fun t t0 t1 => ?_)
    have := fnd_no h (s := (t + 64).toNat) (by omega) (by omega)
    have e : (((t + 64).toNat : Nat) : Int) - 64 = t := by omega
    rw [e] at this
    exact this

theorem fnd_hit {p : Int → Bool} {k : Nat} (hk : k ≤ 128) (h64 : 64 ≤ k) (hp : p ((k : Int) - 64) = true) (hno : fnd (fun s => p ((s : Int) - 64)) k = false) : cutX (wantT p (tls 129)) = (k : Int) - 64 ∧ cutC (wantT p (tls 129)) = 0 := by
  refine cut_first (by omega) (by omega) hp (fun s s0 s1 => ?_)
  have := fnd_no hno (s := (s + 64).toNat) (by omega) (by omega)
  have e : (((s + 64).toNat : Nat) : Int) - 64 = s := by omega
  rw [e] at this
  exact this

theorem zbelV (V : World) (o : Obj) (cs : Array Value) : Below V.heap.size V ((V.alloc o).setRow V.heap.size cs) := below_setRow ((Below.refl _ _).alloc (Nat.le_refl _) _) (Nat.le_refl _) _

theorem blind_oneV (n : Int) (wd gp : Nat) (t : Int) (sh : Nat) : ∀ v ∈ blindC n wd gp t sh, v.oneCell' = true := by
  intro u hu
  simp only [blindC, List.mem_toArray, List.mem_cons, List.not_mem_nil, or_false] at hu
  rcases hu with rfl | rfl | rfl | rfl | rfl <;> rfl

set_option maxRecDepth 100000 in
set_option maxHeartbeats 1000000 in
theorem A2Size_any (x : Nat) (h : isNum x) (w : World) : Calls Try.prog 18 #[.float .f32 x] w fun e w' => e = .returned (.float .f32 (sizeB x)) ∧ w = w' := by
  have HZ := Lib.hid (fun w => l01Size_any x h w)
  clear h
  go_enter Try.func18, Try.ntmps18
  go_wp2_with (go_at_call 37; refine (HZ.out _).mono ?_; rintro e w' ⟨rfl, rfl⟩)
  go_ret
  exact ⟨rfl, rfl⟩

set_option maxRecDepth 100000 in
set_option maxHeartbeats 1000000 in
theorem spSame_fin (x : Nat) (w : World) : Calls Try.prog 16 #[.float .f32 x, .float .f32 x] w fun e w' => e = .returned (.bool true) ∧ w = w' := by
  have HZ : Hid (∀ w, Calls Try.prog 43 #[.float .f32 x, .float .f32 x] w fun e w' => e = .returned (.bool true) ∧ w = w') := Lib.hid (fun w => by
    have h1 := l01Same_any x x w
    have h2 : sameB x x = true := by unfold sameB; exact beq_self_eq_true _
    rw [h2] at h1
    exact h1)
  go_enter Try.func16, Try.ntmps16
  go_wp2_with (go_at_call 43; refine (HZ.out _).mono ?_; rintro e w' ⟨rfl, rfl⟩)
  go_ret
  exact ⟨rfl, rfl⟩

set_option maxRecDepth 100000 in
set_option maxHeartbeats 16000000 in
theorem FnTilts_walk (a : Option Addr) (n0 cap : Nat) (a' : Option Addr) (n1 cap' : Nat) (w : World) (hc0 : BytesAt w w.heap.size (.slice a n0 cap) n0) (hc1 : BytesAt w w.heap.size (.slice a' n1 cap') n1) :
    Calls Try.prog 3 #[.slice a n0 cap, .slice a' n1 cap'] w fun e w' => e = .returned (.bool true) ∧ Below w.heap.size w w' := by
  have HLG := Lib.hid (fun w => a2Long_any n0 cap n1 cap' a a' w)
  have HC0 := Lib.hid hc0
  have HC1 := Lib.hid hc1
  clear hc0 hc1
  generalize (decide (3000 < n0) || decide (3000 < n1)) = lg at *
  cases lg with
  | true =>
    go_enter Try.func3, Try.ntmps3
    go_wp2_with (go_at_call 4; refine (HLG.out _).mono ?_; rintro e w' ⟨rfl, rfl⟩)
    go_ret
    exact ⟨rfl, Below.refl _ _⟩
  | false =>
    have HAB := Lib.hid (A2Blind_any n0 cap a w HC0.out)
    go_enter Try.func3, Try.ntmps3
    go_upto_region 4 with (first | (go_at_call 4; refine (HLG.out _).mono ?_; rintro e w' ⟨rfl, rfl⟩) | (go_at_call 5; refine HAB.out.mono ?_; rintro e W1 ⟨⟨n, wd, gp, tt, sh, rfl, hk⟩, hb1⟩) | (refine wpList_store_part rfl 28 _ _ rfl _ 0 (blindC n wd gp tt sh) rfl rfl 28 _ (heap_alloc_new _ _) info_blind (Nat.le_refl _) (blind_oneV _ _ _ _ _) ?_; rw [laid_all _ _ (by rfl)]))
    refine abs_code (fun V => V.heap[W1.heap.size]? = some (.cells (blindC n wd gp tt sh) 28 (0, 0)) ∧ Below w.heap.size w V) ⟨setRow_heap _ _ _ _ _ _ (heap_alloc_new _ _), below_setRow (hb1.alloc hb1.size _) hb1.size _⟩ ?_
    have hle : w.heap.size ≤ W1.heap.size := hb1.size
    clear hb1 HAB HLG
    generalize W1.heap.size = b0 at *
    rintro V ⟨h0, hb⟩
    have H0 := Lib.hid h0
    clear h0
    go_upto_region 5 with (go_at_call 6; refine (a2At_any n1 cap' a' 0 64 (by decide) (by decide) (by decide) w.heap.size _ (bytes_below HC1.out hb (Nat.le_refl _))).mono ?_; rintro e W1 ⟨⟨r, rfl, r0, r1⟩, rfl⟩; have hwr : IntKind.i64.wrap (1 + r) = 1 + r := by rw [IntWalk.i64_in _ (by omega)])
    have hh0 : 1 ≤ 1 + r := by omega
    have hh1 : 1 + r ≤ 64 := by omega
    clear hwr
    generalize 1 + r = h at *
    clear r0 r1
    go_upto_region 6 with (go_at_call 7; refine (A2Part_any n1 cap' a' _ (bytes_below HC1.out hb hb.size)).mono ?_; rintro e W1 ⟨⟨zw, rfl, hzw⟩, hb1⟩; replace H0 := Lib.hid (below_row hb1 H0.out); replace hb := hb.trans (hb1.mono hb.size); clear hb1)
    go_upto_region 7 with (go_at_call 7; refine (A2Part_any n0 cap a _ (bytes_below HC0.out hb hb.size)).mono ?_; rintro e W1 ⟨⟨zl, rfl, hzl⟩, hb1⟩; replace H0 := Lib.hid (below_row hb1 H0.out); replace hb := hb.trans (hb1.mono hb.size); clear hb1; have hq := half_part hzl; have rq : ∀ T w, (binOp .quo T (.float .f32 zl) (.float .f32 1073741824)).run Try.prog w = .ok (.float .f32 (fdiv zl 1073741824)) w := fun T w => run_float_arith w .quo T .f32 _ _ _ hq.1)
    have hlo := hq.2
    clear rq hq hzl HC0 HC1
    generalize fdiv zl 1073741824 = lo at *
    obtain ⟨hok, bw⟩ := drawn_ok hk
    have hi : inI 1 64 h = true := by unfold inI; rw [decide_eq_true hh0, decide_eq_true hh1]; rfl
    have hpw : partB zw = true := tone_part hzw
    have hpl : partB lo = true := tone_part hlo
    have wzw : (Lit.float .f32 zw).wf = true := low_wf (by omega)
    have wlo : (Lit.float .f32 lo).wf = true := low_wf (by omega)
    have HiT := Lib.hid (fun W => iTF_yes n wd gp tt sh bw h zw wzw W hok hi hpw)
    have HsT := Lib.hid (fun W => sTF_yes n wd gp tt sh bw h zw wzw W hok hi hpw)
    have HiS := Lib.hid (fun W => implShutTilts_yes n wd gp tt sh bw h hok hi W)
    have HsS := Lib.hid (fun W => specShutTilts_yes n wd gp tt sh bw h hok hi W)
    have HiW := Lib.hid (fun W => implWithin_yes n wd gp tt sh bw h lo zw hok hi hpl hpw W)
    have HsW := Lib.hid (fun W => specWithin_yes n wd gp tt sh bw h lo zw hok hi hpl hpw wlo wzw W)
    have HsC := Lib.hid (fun W => specCutOff_yes n wd gp tt sh bw h hok hi W)
    have HiC := Lib.hid (fun W => implCutOff_yes n wd gp tt sh h _ (Nat.le_trans (wantT_len _ _) (by rw [tls_length]; decide)) (fun W => implShutTilts_yes n wd gp tt sh bw h hok hi W) W)
    have hoks : ∀ x : Int, -64 ≤ x → x ≤ 64 → okBl n wd gp x sh = true ∧ BlWf n wd gp x sh := fun x x0 x1 => drawn_ok ⟨hk.1, hk.2.1, hk.2.2.1, hk.2.2.2.1, x0, x1, hk.2.2.2.2.2.2⟩
    have HTT := Lib.hid (fun x (x0 : -64 ≤ x) (x1 : x ≤ 64) W => implTiltTo_yes n wd gp tt sh bw x hok (by unfold inI; rw [decide_eq_true x0, decide_eq_true x1]; rfl) W)
    have HPS := Lib.hid (fun x (x0 : -64 ≤ x) (x1 : x ≤ 64) W => implPassFor_yes n wd gp x sh (hoks x x0 x1).2 h (hoks x x0 x1).1 hi W)
    have HOP := Lib.hid (fun x (x0 : -64 ≤ x) (x1 : x ≤ 64) W => implOpenFor_yes n wd gp x sh (hoks x x0 x1).2 h (hoks x x0 x1).1 hi W)
    have OK := blok_of bw hok
    have WP : PartOk zw := part_get wzw hpw
    have HSB := Lib.hid (fun k : Nat => dT_sub wd gp OK.2.2.2.2.2.2.2.2 h WP ((k : Int) - 64))
    have HQN := Lib.hid (fun k : Nat => (isNum_pos (Nat.lt_of_le_of_lt (pas_le wd gp ((k : Int) - 64) OK.2.2.2.2.2.2.2.2 h) (by decide)) : isNum (pT wd gp sh h k)))
    have HNR := Lib.hid (fun (k : Nat) (hk : k ≤ 128) => near_facts (fun j => dT_num wd gp OK.2.2.2.2.2.2.2.2 h WP j) hk)
    have HDN : Hid (∀ k, isNum (dT wd gp sh h zw k)) := Lib.hid (fun k => dT_num wd gp OK.2.2.2.2.2.2.2.2 h WP k)
    have HDE : Hid (∀ k, sizeB (fsub (pT wd gp sh h k) zw) = dT wd gp sh h zw k) := Lib.hid (fun k => rfl)
    have HML := firstMin_le (dT wd gp sh h zw) 128
    have HC1 : Hid (∀ k : Nat, k ≤ 128 → (wantT (shutP wd gp h) (tls 129)).contains ((k : Int) - 64) = (FloatKind.f32.format.order (opnB wd gp ((k : Int) - 64) h) 0 == some .eq)) := Lib.hid (fun k hk => wantT_has _ (by omega) (by omega))
    have HC2 : Hid (∀ k : Nat, k ≤ 128 → (wantT (inBW wd gp sh h lo zw) (tls 129)).contains ((k : Int) - 64) = (geB (pT wd gp sh h k) lo && leB (pT wd gp sh h k) zw)) := Lib.hid (fun k hk => wantT_has _ (by omega) (by omega))
    have HCI := Lib.hid (cut_is (shutP wd gp h))
    have HCH := Lib.hid (fun (k : Nat) (hk : k ≤ 128) (h64 : 64 ≤ k) => @fnd_hit (shutP wd gp h) k hk h64)
    have HFS := Lib.hid (fun k => fnd_succ (fun s => shutP wd gp h ((s : Int) - 64)) k)
    have HPE : Hid (∀ k : Nat, shutP wd gp h ((k : Int) - 64) = (FloatKind.f32.format.order (opnB wd gp ((k : Int) - 64) h) 0 == some .eq)) := Lib.hid (fun k => rfl)
    have HQE : Hid (∀ k : Nat, pasB wd gp ((k : Int) - 64) sh h = pT wd gp sh h k) := Lib.hid (fun k => rfl)
    unfold Hid at HSB
    have HSB2 : Hid (∀ k : Nat, floatBits .sub .f32 (pT wd gp sh h k) zw = some (fsub (pT wd gp sh h k) zw) ∧ isNum (fsub (pT wd gp sh h k) zw)) := Lib.hid HSB
    have HF0 : Hid (fnd (fun s => shutP wd gp h ((s : Int) - 64)) 0 = false) := Lib.hid rfl
    have hcc : cutC (wantT (shutP wd gp h) (tls 129)) = 0 ∨ cutC (wantT (shutP wd gp h) (tls 129)) = 6 := by rw [HCI.out]; split; exact .inl rfl; exact .inr rfl
    clear HSB OK WP hoks hi hpw hpl wzw wlo hok bw hk
    unfold RetCut at HiC HsC
    generalize wantT (shutP wd gp h) (tls 129) = L1 at *
    generalize wantT (inBW wd gp sh h lo zw) (tls 129) = L2 at *
    generalize hFN : fnd (fun s => shutP wd gp h ((s : Int) - 64)) = fn at *
    generalize cutC L1 = cc at *
    generalize cutX L1 = cx at *
    generalize firstMin (dT wd gp sh h zw) 128 = m at *
    generalize hQ : pT wd gp sh h = q at *
    generalize hD : dT wd gp sh h zw = d at *
    clear hFN hQ hD
    go_upto_region 9 with (first | (refine wpList_load_part rfl 28 _ rfl b0 0 5 rfl 28 (blindC n wd gp tt sh) (0, 0) _ H0.out Try.underlying28 rfl info_blind (blind_fits _ _ _ _ _) _ (blind_all _ _ _ _ _) ?_) | (go_at_call 8; refine (HiT.out _).mono ?_; rintro e W1 ⟨rfl, hb1⟩; replace H0 := Lib.hid (below_row hb1 H0.out); replace hb := hb.trans (hb1.mono hb.size); clear hb1) | (go_at_call 9; refine (HsT.out _).mono ?_; rintro e W1 ⟨rfl, hb1⟩; replace H0 := Lib.hid (below_row hb1 H0.out); replace hb := hb.trans (hb1.mono hb.size); clear hb1))
    go_upto_region 10 with (first | (refine wpList_load_part rfl 28 _ rfl b0 0 5 rfl 28 (blindC n wd gp tt sh) (0, 0) _ H0.out Try.underlying28 rfl info_blind (blind_fits _ _ _ _ _) _ (blind_all _ _ _ _ _) ?_) | (go_at_call 10; refine (HiS.out _).mono ?_; rintro e W1 ⟨⟨v1, rfl, ho⟩, hb1⟩; replace H0 := Lib.hid (below_row hb1 H0.out); replace hb := hb.trans (hb1.mono hb.size); clear hb1; have I1 := Lib.hid (own_ints ho); clear ho))
    go_upto_region 11 with (first | (refine wpList_load_part rfl 28 _ rfl b0 0 5 rfl 28 (blindC n wd gp tt sh) (0, 0) _ H0.out Try.underlying28 rfl info_blind (blind_fits _ _ _ _ _) _ (blind_all _ _ _ _ _) ?_) | (go_at_call 11; refine (HsS.out _).mono ?_; rintro e W1 ⟨⟨v2, rfl, ho⟩, hb1⟩; replace H0 := Lib.hid (below_row hb1 H0.out); replace I1 := Lib.hid (ints_below I1.out hb1); replace hb := hb.trans (hb1.mono hb.size); clear hb1; have I2 := Lib.hid (own_ints ho); clear ho))
    go_upto_region 12 with (first | (refine wpList_load_part rfl 28 _ rfl b0 0 5 rfl 28 (blindC n wd gp tt sh) (0, 0) _ H0.out Try.underlying28 rfl info_blind (blind_fits _ _ _ _ _) _ (blind_all _ _ _ _ _) ?_) | (go_at_call 12; refine (HiW.out _).mono ?_; rintro e W1 ⟨⟨v3, rfl, ho⟩, hb1⟩; replace H0 := Lib.hid (below_row hb1 H0.out); replace I1 := Lib.hid (ints_below I1.out hb1); replace I2 := Lib.hid (ints_below I2.out hb1); replace hb := hb.trans (hb1.mono hb.size); clear hb1; have I3 := Lib.hid (own_ints ho); clear ho))
    go_upto_region 13 with (first | (refine wpList_load_part rfl 28 _ rfl b0 0 5 rfl 28 (blindC n wd gp tt sh) (0, 0) _ H0.out Try.underlying28 rfl info_blind (blind_fits _ _ _ _ _) _ (blind_all _ _ _ _ _) ?_) | (go_at_call 13; refine (HsW.out _).mono ?_; rintro e W1 ⟨⟨v4, rfl, ho⟩, hb1⟩; replace H0 := Lib.hid (below_row hb1 H0.out); replace I1 := Lib.hid (ints_below I1.out hb1); replace I2 := Lib.hid (ints_below I2.out hb1); replace I3 := Lib.hid (ints_below I3.out hb1); replace hb := hb.trans (hb1.mono hb.size); clear hb1; have I4 := Lib.hid (own_ints ho); clear ho))
    clear HiT HsT HiS HsS HiW HsW
    go_upto_region 14 with (first | (refine wpList_load_part rfl 28 _ rfl b0 0 5 rfl 28 (blindC n wd gp tt sh) (0, 0) _ H0.out Try.underlying28 rfl info_blind (blind_fits _ _ _ _ _) _ (blind_all _ _ _ _ _) ?_) | (go_at_call 14; refine (HiC.out _).mono ?_; rintro e W1 ⟨rfl, hb1⟩; replace H0 := Lib.hid (below_row hb1 H0.out); replace I1 := Lib.hid (ints_below I1.out hb1); replace I2 := Lib.hid (ints_below I2.out hb1); replace I3 := Lib.hid (ints_below I3.out hb1); replace I4 := Lib.hid (ints_below I4.out hb1); replace hb := hb.trans (hb1.mono hb.size); clear hb1))
    go_upto_region 15 with (first | (refine wpList_load_part rfl 28 _ rfl b0 0 5 rfl 28 (blindC n wd gp tt sh) (0, 0) _ H0.out Try.underlying28 rfl info_blind (blind_fits _ _ _ _ _) _ (blind_all _ _ _ _ _) ?_) | (go_at_call 15; refine (HsC.out _).mono ?_; rintro e W1 ⟨rfl, hb1⟩; replace H0 := Lib.hid (below_row hb1 H0.out); replace I1 := Lib.hid (ints_below I1.out hb1); replace I2 := Lib.hid (ints_below I2.out hb1); replace I3 := Lib.hid (ints_below I3.out hb1); replace I4 := Lib.hid (ints_below I4.out hb1); replace hb := hb.trans (hb1.mono hb.size); clear hb1))
    clear HiC HsC
    go_cut [171] (fun s wx => s = .bool false ∧ wx.heap[b0]? = some (.cells (blindC n wd gp tt sh) 28 (0, 0)) ∧ IntsAt wx v2 L1 ∧ IntsAt wx v4 L2 ∧ Below w.heap.size w wx)
    case first =>
      clear HTT HPS HOP HSB2 HNR HDE HC1 HC2 HCI HCH HFS HPE HQE
      rcases hcc with rfl | rfl
      · as_aux_lemma =>
          go_wp2_with (first | (go_at_call 16; refine (spSame_fin _ _).mono ?_; rintro e w' ⟨rfl, rfl⟩) | (go_at_call 17; refine (A2Same_any v1 v2 L1 _ I1.out I2.out).mono ?_; rintro e W1 ⟨rfl, hb1⟩; replace H0 := Lib.hid (below_row hb1 H0.out); replace I1 := Lib.hid (ints_below I1.out hb1); replace I2 := Lib.hid (ints_below I2.out hb1); replace I3 := Lib.hid (ints_below I3.out hb1); replace I4 := Lib.hid (ints_below I4.out hb1); replace hb := hb.trans (hb1.mono hb.size); clear hb1) | (go_at_call 17; refine (A2Same_any v3 v4 L2 _ I3.out I4.out).mono ?_; rintro e W1 ⟨rfl, hb1⟩; replace H0 := Lib.hid (below_row hb1 H0.out); replace I1 := Lib.hid (ints_below I1.out hb1); replace I2 := Lib.hid (ints_below I2.out hb1); replace I3 := Lib.hid (ints_below I3.out hb1); replace I4 := Lib.hid (ints_below I4.out hb1); replace hb := hb.trans (hb1.mono hb.size); clear hb1))
          go_meet
          case rel => exact ⟨rfl, H0.out, I2.out, I4.out, hb⟩
      · as_aux_lemma =>
          go_wp2_with (first | (go_at_call 16; refine (spSame_fin _ _).mono ?_; rintro e w' ⟨rfl, rfl⟩) | (go_at_call 17; refine (A2Same_any v1 v2 L1 _ I1.out I2.out).mono ?_; rintro e W1 ⟨rfl, hb1⟩; replace H0 := Lib.hid (below_row hb1 H0.out); replace I1 := Lib.hid (ints_below I1.out hb1); replace I2 := Lib.hid (ints_below I2.out hb1); replace I3 := Lib.hid (ints_below I3.out hb1); replace I4 := Lib.hid (ints_below I4.out hb1); replace hb := hb.trans (hb1.mono hb.size); clear hb1) | (go_at_call 17; refine (A2Same_any v3 v4 L2 _ I3.out I4.out).mono ?_; rintro e W1 ⟨rfl, hb1⟩; replace H0 := Lib.hid (below_row hb1 H0.out); replace I1 := Lib.hid (ints_below I1.out hb1); replace I2 := Lib.hid (ints_below I2.out hb1); replace I3 := Lib.hid (ints_below I3.out hb1); replace I4 := Lib.hid (ints_below I4.out hb1); replace hb := hb.trans (hb1.mono hb.size); clear hb1))
          go_meet
          case rel => exact ⟨rfl, H0.out, I2.out, I4.out, hb⟩
    case rest =>
    clear H0 I1 I2 I3 I4 hb
    obtain ⟨rfl, h0, i2, i4, hb⟩ := hcut
    have H0 := Lib.hid h0
    have I2 := Lib.hid i2
    have I4 := Lib.hid i4
    clear h0 i2 i4
    have rs : ∀ T w, (binOp .sub T (.float .f32 (q m)) (.float .f32 zw)).run Try.prog w = .ok (.float .f32 (fsub (q m) zw)) w := fun T w => run_float_arith w .sub T .f32 _ _ _ (HSB2.out m).1
    have HZM := Lib.hid (fun w => A2Size_any (fsub (q m) zw) (HSB2.out m).2 w)
    rw [HDE.out m] at HZM
    go_upto_region 20 with (go_at_call 18; refine (HZM.out _).mono ?_; rintro e w' ⟨rfl, rfl⟩)
    clear rs HZM
    go_loopw [28, 29] (fun f i wr => ∃ k : Nat, k ≤ 129 ∧ f = .bool (fn k) ∧ i = .int .i64 ((k : Int) - 64) ∧ wr.heap[b0]? = some (.cells (blindC n wd gp tt sh) 28 (0, 0)) ∧ IntsAt wr v2 L1 ∧ IntsAt wr v4 L2 ∧ Below w.heap.size w wr) (fun _ i _ => (65 - intOf i).toNat)
    case atStart => exact ⟨0, Nat.zero_le _, by rw [HF0.out], rfl, H0.out, I2.out, I4.out, hb⟩
    case round =>
      as_aux_lemma =>
      clear H0 I2 I4 hb
      obtain ⟨k, hk, rfl, rfl, h0, i2, i4, hb⟩ := hrel
      have H0 := Lib.hid h0
      have I2 := Lib.hid i2
      have I4 := Lib.hid i4
      clear h0 i2 i4
      by_cases hlt : k ≤ 128
      · have x0 : -64 ≤ (k : Int) - 64 := by omega
        have x1 : (k : Int) - 64 ≤ 64 := by omega
        have HTk := Lib.hid (HTT.out _ x0 x1)
        have HPk := Lib.hid (HPS.out _ x0 x1)
        have HOk := Lib.hid (HOP.out _ x0 x1)
        rw [HQE.out k] at HPk
        have rs : ∀ T w, (binOp .sub T (.float .f32 (q k)) (.float .f32 zw)).run Try.prog w = .ok (.float .f32 (fsub (q k) zw)) w := fun T w => run_float_arith w .sub T .f32 _ _ _ (HSB2.out k).1
        have HZk := Lib.hid (fun w => A2Size_any (fsub (q k) zw) (HSB2.out k).2 w)
        rw [HDE.out k] at HZk
        have HN := Lib.hid (HNR.out k hlt)
        have HDM := Lib.hid (HDN.out k)
        have E1 := HC1.out k hlt
        have E2 := HC2.out k hlt
        have EH := Lib.hid (HCH.out k hlt)
        have EF := Lib.hid (HFS.out k)
        have EP := HPE.out k
        have hqs := order_self (HQN.out k)
        have hw1 : IntKind.i64.wrap ((k : Int) - 64) = (k : Int) - 64 := by rw [IntWalk.i64_in _ (by omega)]
        have hw2 : IntKind.i64.wrap ((k : Int) - 64 + 1) = (k : Int) - 64 + 1 := by rw [IntWalk.i64_in _ (by omega)]
        have hcv : ((k : Int) - 64) = ((k : Int) - 64) := rfl
        rw [EP] at EF
        unfold Hid at EH
        rw [EP, ← E1] at EH
        rw [← E1] at EF
        clear HTT HPS HOP HSB2 HNR HDE HC1 HC2 HCI HCH HFS HPE HQE EP HQN hcc HDN
        generalize opnB wd gp ((k : Int) - 64) h = op at *
        generalize hx : (k : Int) - 64 = x at *
        go_upto_region 23 with (first | (refine wpList_load_part rfl 28 _ rfl b0 0 5 rfl 28 (blindC n wd gp tt sh) (0, 0) _ H0.out Try.underlying28 rfl info_blind (blind_fits _ _ _ _ _) _ (blind_all _ _ _ _ _) ?_) | (go_at_call 19; refine (HTk.out _).mono ?_; rintro e W1 ⟨rfl, hb1⟩; replace H0 := Lib.hid (below_row hb1 H0.out); replace I2 := Lib.hid (ints_below I2.out hb1); replace I4 := Lib.hid (ints_below I4.out hb1); replace hb := hb.trans (hb1.mono hb.size); clear hb1) | (refine wpList_store_part rfl 28 _ _ rfl _ 0 (blindC n wd gp x sh) rfl rfl 28 _ (heap_alloc_new _ _) info_blind (Nat.le_refl _) (blind_oneV _ _ _ _ _) ?_; rw [laid_all _ _ (by rfl)]))
        refine abs_world (fun V => V.heap[b0]? = some (.cells (blindC n wd gp tt sh) 28 (0, 0)) ∧ V.heap[W1.heap.size]? = some (.cells (blindC n wd gp x sh) 28 (0, 0)) ∧ IntsAt V v2 L1 ∧ IntsAt V v4 L2 ∧ Below w.heap.size w V) ⟨below_row (zbelV _ _ _) H0.out, setRow_heap _ _ _ _ _ _ (heap_alloc_new _ _), ints_below I2.out (zbelV _ _ _), ints_below I4.out (zbelV _ _ _), hb.trans ((zbelV _ _ _).mono hb.size)⟩ ?_
        clear H0 I2 I4 hb
        generalize W1.heap.size = b1 at *
        rintro V2 ⟨h0, h1, i2, i4, hb⟩
        have H0 := Lib.hid h0
        have H1 := Lib.hid h1
        have I2 := Lib.hid i2
        have I4 := Lib.hid i4
        obtain ⟨p0, -, -, p3, -⟩ := blind_cells h1
        obtain ⟨q0, -, -, -, -⟩ := blind_cells h0
        clear h0 h1 i2 i4 HTk
        go_upto_region 28 with (first | (refine wpList_load_part rfl 28 _ rfl b1 0 5 rfl 28 (blindC n wd gp x sh) (0, 0) _ H1.out Try.underlying28 rfl info_blind (blind_fits _ _ _ _ _) _ (blind_all _ _ _ _ _) ?_) | (go_at_call 20; refine (HPk.out _).mono ?_; rintro e W1 ⟨rfl, hb1⟩; replace H1 := Lib.hid (below_row hb1 H1.out); replace H0 := Lib.hid (below_row hb1 H0.out); replace I2 := Lib.hid (ints_below I2.out hb1); replace I4 := Lib.hid (ints_below I4.out hb1); replace hb := hb.trans (hb1.mono hb.size); clear hb1) | (go_at_call 21; refine (HOk.out _).mono ?_; rintro e W1 ⟨rfl, hb1⟩; replace H1 := Lib.hid (below_row hb1 H1.out); replace H0 := Lib.hid (below_row hb1 H0.out); replace I2 := Lib.hid (ints_below I2.out hb1); replace I4 := Lib.hid (ints_below I4.out hb1); replace hb := hb.trans (hb1.mono hb.size); clear hb1) | (go_at_call 18; refine (HZk.out _).mono ?_; rintro e w' ⟨rfl, rfl⟩))
        clear p0 p3 q0 rs HZk HPk HOk H1
        unfold geB leB at E2
        have HA1 := Lib.hid (fun W (hz : IntsAt W v2 L1) => A2Has_any v2 L1 x W hz)
        have HA2 := Lib.hid (fun W (hz : IntsAt W v4 L2) => A2Has_any v4 L2 x W hz)
        rw [E1] at HA1
        rw [E2] at HA2
        rw [E1] at EH
        rw [E1] at EF
        clear E1 E2
        generalize hgp : (FloatKind.f32.format.order op 0 == some Ordering.eq) = p at *
        generalize hg1 : (FloatKind.f32.format.order (q k) lo == some Ordering.gt || FloatKind.f32.format.order (q k) lo == some Ordering.eq) = g1 at *
        generalize hg2 : (FloatKind.f32.format.order (q k) zw == some Ordering.lt || FloatKind.f32.format.order (q k) zw == some Ordering.eq) = g2 at *
        go_cut [271] (fun s wx => s = .bool false ∧ wx.heap[b0]? = some (.cells (blindC n wd gp tt sh) 28 (0, 0)) ∧ IntsAt wx v2 L1 ∧ IntsAt wx v4 L2 ∧ Below w.heap.size w wx)
        case first =>
          clear EH EF
          rcases HN.out with ⟨ho, hm⟩ | ho
          · have z1 : ¬ (x < (m : Int) - 64) := by omega
            have z2 : decide (x < (m : Int) - 64) = false := decide_eq_false z1
            by_cases hkm : k = m
            · have hqm : FloatKind.f32.format.order (q k) (q m) = some .eq := by rw [← hkm]; exact hqs
              have e1 : (x == (m : Int) - 64) = true := beq_iff_eq.2 (by omega)
              clear hkm
              cases g1 with
              | true =>
                as_aux_lemma =>
                  go_wp2_with (first | (go_at_call 22; refine (HA1.out _ I2.out).mono ?_; rintro e w' ⟨rfl, rfl⟩) | (go_at_call 22; refine (HA2.out _ I4.out).mono ?_; rintro e w' ⟨rfl, rfl⟩))
                  go_meet
                  case rel => exact ⟨by simp, H0.out, I2.out, I4.out, hb⟩
              | false =>
                as_aux_lemma =>
                  go_wp2_with (first | (go_at_call 22; refine (HA1.out _ I2.out).mono ?_; rintro e w' ⟨rfl, rfl⟩) | (go_at_call 22; refine (HA2.out _ I4.out).mono ?_; rintro e w' ⟨rfl, rfl⟩))
                  go_meet
                  case rel => exact ⟨by simp, H0.out, I2.out, I4.out, hb⟩
            · have e1 : (x == (m : Int) - 64) = false := beq_eq_false_iff_ne.2 (by omega)
              cases g1 with
              | true =>
                as_aux_lemma =>
                  go_wp2_with (first | (go_at_call 22; refine (HA1.out _ I2.out).mono ?_; rintro e w' ⟨rfl, rfl⟩) | (go_at_call 22; refine (HA2.out _ I4.out).mono ?_; rintro e w' ⟨rfl, rfl⟩))
                  go_meet
                  case rel => exact ⟨by simp, H0.out, I2.out, I4.out, hb⟩
              | false =>
                as_aux_lemma =>
                  go_wp2_with (first | (go_at_call 22; refine (HA1.out _ I2.out).mono ?_; rintro e w' ⟨rfl, rfl⟩) | (go_at_call 22; refine (HA2.out _ I4.out).mono ?_; rintro e w' ⟨rfl, rfl⟩))
                  go_meet
                  case rel => exact ⟨by simp, H0.out, I2.out, I4.out, hb⟩
          · have hkm : k ≠ m := by
              rintro rfl
              rw [order_self HDM.out] at ho
              cases ho
            have e1 : (x == (m : Int) - 64) = false := beq_eq_false_iff_ne.2 (by omega)
            cases g1 with
            | true =>
              as_aux_lemma =>
                go_wp2_with (first | (go_at_call 22; refine (HA1.out _ I2.out).mono ?_; rintro e w' ⟨rfl, rfl⟩) | (go_at_call 22; refine (HA2.out _ I4.out).mono ?_; rintro e w' ⟨rfl, rfl⟩))
                go_meet
                case rel => exact ⟨by simp, H0.out, I2.out, I4.out, hb⟩
            | false =>
              as_aux_lemma =>
                go_wp2_with (first | (go_at_call 22; refine (HA1.out _ I2.out).mono ?_; rintro e w' ⟨rfl, rfl⟩) | (go_at_call 22; refine (HA2.out _ I4.out).mono ?_; rintro e w' ⟨rfl, rfl⟩))
                go_meet
                case rel => exact ⟨by simp, H0.out, I2.out, I4.out, hb⟩
        case rest =>
        clear H0 I2 I4 hb HA1 HA2 hg1 hg2 HN
        obtain ⟨rfl, h0, i2, i4, hb⟩ := hcut
        have H0 := Lib.hid h0
        have I2 := Lib.hid i2
        have I4 := Lib.hid i4
        clear h0 i2 i4
        have hnx : x + 1 = ((k + 1 : Nat) : Int) - 64 := by omega
        cases p with
        | false =>
          have HE : Hid (fn (k + 1) = fn k) := Lib.hid (by rw [EF.out]; simp)
          as_aux_lemma =>
            go_wp2
            go_roundw
            case rel => exact ⟨k + 1, by omega, by rw [HE.out], by first | (rw [hnx]; done) | (exact congrArg (Value.int .i64) (by omega)) | (simp; omega), H0.out, I2.out, I4.out, hb⟩
            case measure => simp [intOf]; omega
        | true =>
          by_cases h64 : 64 ≤ k
          · have z1 : (0 : Int) ≤ x := by omega
            have z2 : decide (x ≥ 0) = true := decide_eq_true z1
            have HE : Hid (fn (k + 1) = true) := Lib.hid (by rw [EF.out, decide_eq_true h64]; simp)
            cases hf : fn k with
            | true =>
              as_aux_lemma =>
                go_wp2
                go_roundw
                case rel => exact ⟨k + 1, by omega, by rw [HE.out], by first | (rw [hnx]; done) | (exact congrArg (Value.int .i64) (by omega)) | (simp; omega), H0.out, I2.out, I4.out, hb⟩
                case measure => simp [intOf]; omega
            | false =>
              obtain ⟨rfl, rfl⟩ := EH h64 rfl hf
              as_aux_lemma =>
                go_wp2
                go_roundw
                case rel => exact ⟨k + 1, by omega, by rw [HE.out], by first | (rw [hnx]; done) | (exact congrArg (Value.int .i64) (by omega)) | (simp; omega), H0.out, I2.out, I4.out, hb⟩
                case measure => simp [intOf]; omega
          · have z1 : ¬ ((0 : Int) ≤ x) := by omega
            have z2 : decide (x ≥ 0) = false := decide_eq_false z1
            have HE : Hid (fn (k + 1) = fn k) := Lib.hid (by rw [EF.out, decide_eq_false h64]; simp)
            as_aux_lemma =>
              go_wp2
              go_roundw
              case rel => exact ⟨k + 1, by omega, by rw [HE.out], by first | (rw [hnx]; done) | (exact congrArg (Value.int .i64) (by omega)) | (simp; omega), H0.out, I2.out, I4.out, hb⟩
              case measure => simp [intOf]; omega
      · obtain rfl : k = 129 := by omega
        have hci := HCI.out
        clear HTT HPS HOP HSB2 HNR HDE HC1 HC2 HCI HCH HFS HPE HQE HQN HDN
        cases hf : fn 129 with
        | true =>
          rw [hf, if_pos rfl] at hci
          subst hci
          as_aux_lemma =>
            go_wp2
            go_ret
            exact ⟨rfl, hb⟩
        | false =>
          rw [hf, if_neg (by decide)] at hci
          subst hci
          as_aux_lemma =>
            go_wp2
            go_ret
            exact ⟨rfl, hb⟩

end Go.Proofs.Ytdccmdcgbembpaa
