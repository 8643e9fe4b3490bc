/-
  BkV.
-/
import Derived.Test.YtmbgmpeiicjlaaaGreatDoorMt11
import Derived.Test.YtmbgmpeiicjlaaaGreatDoorMt7
import Derived.Test.YtmbgmpeiicjlaaaGreatDoorMt14
import Derived.Test.YtmbgmpeiicjlaaaGreatDoorMt9
import Derived.Test.YtmbgmpeiicjlaaaGreatDoorMt2
import Derived.Test.YtmbgmpeiicjlaaaGreatDoorMt10
import Derived.Deep.Cut
import Derived.Deep.DeepCutAuto
import Derived.Deep.Light

namespace Go.Proofs.YtmbgmpeiicjlaaaGreatDoor
open Go.ChangeShapes Go.WideShapes Go.ChangeAt Go.RowKit Go.Deep Go.Joins

attribute [local go_sem] run_store_f

set_option maxRecDepth 100000 in
set_option maxHeartbeats 1000000 in
theorem spSame_b (x : Nat) (w : World) : Calls Tryz.prog 23 #[.float .f32 x, .float .f32 x] w fun e w' => e = .returned (.bool true) ∧ w = w' := by
  have HZ : Hid (∀ w, Calls Tryz.prog 41 #[.float .f32 x, .float .f32 x] w fun e w' => e = .returned (.bool true) ∧ w = w') := Lib.hid (fun w => by
    have h1 := l01Same_is x x w
    rw [sameB_rfl] at h1
    exact h1)
  go_enter Tryz.func23, Tryz.ntmps23
  go_wp2_with (go_at_call 41; refine (HZ.out _).mono ?_; rintro e w' ⟨rfl, rfl⟩)
  go_ret
  exact ⟨rfl, rfl⟩

theorem blind_oneB (n : Int) (wd gp : Nat) (t : Int) (sh : Nat) : ∀ v ∈ blindC n wd gp t sh, v.oneCell' = true := by
  intro u hu
  simp only [blindC, List.mem_toArray, List.mem_cons, List.not_mem_nil, or_false] at hu
  rcases hu with rfl | rfl | rfl | rfl | rfl <;> rfl

theorem fresh_rowB {A : World} {o : Obj} {cs : Array Value} {k : Nat} {w : World} (hb : Below k w A) (hk : k ≤ A.heap.size) : Below k w ((A.alloc o).setRow A.heap.size cs) := below_setRow (hb.alloc hk _) hk _

theorem kn_u32 {a b : Nat} : ((a : Int) != (b : Int)) = (a != b) := by
  by_cases h : a = b
  · subst h; simp
  · have h2 : ¬ (a : Int) = (b : Int) := by omega
    rw [bne_iff_ne.2 h, bne_iff_ne.2 h2]

set_option maxRecDepth 100000 in
set_option maxHeartbeats 4000000 in
theorem bk_year (n : Int) (wd gp : Nat) (tt : Int) (sh : Nat) (hbl : okBl n wd gp tt sh = true) (bw : BlWf n wd gp tt sh) (ksh : sh ≤ 1065353216) (fc : Int) (f0 : 0 ≤ fc) (f1 : fc < 256) (hs0 ts0 hs1 ts1 : List Int) (hh0 : hs0.length = 24) (ht0 : ts0.length = 24) (hok0 : okB hs0 ts0 = true) (hh1 : hs1.length = 24) (ht1 : ts1.length = 24) (hok1 : okB hs1 ts1 = true) (b4 : Nat) :
    ∃ d0 d1 mi top bf sm : Nat, (∀ W, W.heap[b4]? = some (.cells (sunC hs0 ts0 ++ sunC hs1 ts1) 46 (0, 0)) → Calls Tryz.prog 18 #[.agg (blindC n wd gp tt sh), (.slice (some ⟨b4, 0, none⟩) 2 2), .int .i64 fc] W (RetF6 [d0, d1] 0 W)) ∧ (∀ W, W.heap[b4]? = some (.cells (sunC hs0 ts0 ++ sunC hs1 ts1) 46 (0, 0)) → Calls Tryz.prog 19 #[.agg (blindC n wd gp tt sh), (.slice (some ⟨b4, 0, none⟩) 2 2), .int .i64 fc] W fun e w' => e = .returned (.tuple #[.int .i64 (mi : Int), .float .f32 top, .int .i64 0]) ∧ Below W.heap.size W w') ∧ (∀ W, W.heap[b4]? = some (.cells (sunC hs0 ts0 ++ sunC hs1 ts1) 46 (0, 0)) → Calls Tryz.prog 20 #[.agg (blindC n wd gp tt sh), (.slice (some ⟨b4, 0, none⟩) 2 2), .int .i64 fc] W fun e w' => e = .returned (.tuple #[.int .i64 (mi : Int), .float .f32 top, .int .i64 0]) ∧ Below W.heap.size W w') ∧ (∀ W, W.heap[b4]? = some (.cells (sunC hs0 ts0 ++ sunC hs1 ts1) 46 (0, 0)) → Calls Tryz.prog 21 #[.agg (blindC n wd gp tt sh), (.slice (some ⟨b4, 0, none⟩) 2 2), .int .i64 40] W fun e w' => e = .returned (.tuple #[.int .i64 ((bf : Int) * 40), .float .f32 sm, .int .i64 0]) ∧ Below W.heap.size W w') ∧ (∀ W, W.heap[b4]? = some (.cells (sunC hs0 ts0 ++ sunC hs1 ts1) 46 (0, 0)) → Calls Tryz.prog 22 #[.agg (blindC n wd gp tt sh), (.slice (some ⟨b4, 0, none⟩) 2 2), .int .i64 40] W fun e w' => e = .returned (.tuple #[.int .i64 ((bf : Int) * 40), .float .f32 sm, .int .i64 0]) ∧ Below W.heap.size W w') ∧ (∀ W, Calls Tryz.prog 24 #[.agg (blindC n wd gp tt sh), .agg (sunC hs0 ts0), .int .i64 fc] W fun e w' => e = .returned (.tuple #[.float .f32 d0, .int .i64 0]) ∧ Below W.heap.size W w') ∧ (∀ W, Calls Tryz.prog 24 #[.agg (blindC n wd gp tt sh), .agg (sunC hs1 ts1), .int .i64 fc] W fun e w' => e = .returned (.tuple #[.float .f32 d1, .int .i64 0]) ∧ Below W.heap.size W w') ∧ (FloatKind.f32.format.order d0 d0 = some .eq ∧ ((FloatKind.f32.format.order d0 top = some .eq ∧ mi = 0) ∨ (FloatKind.f32.format.order d0 top = some .lt ∧ ((0 : Int) == (mi : Int)) = false))) ∧ (FloatKind.f32.format.order d1 d1 = some .eq ∧ ((FloatKind.f32.format.order d1 top = some .eq ∧ decide ((1 : Int) < (mi : Int)) = false) ∨ (FloatKind.f32.format.order d1 top = some .lt ∧ ((1 : Int) == (mi : Int)) = false))) ∧ (∀ j : Nat, j < 7 → ∃ f x y z s : Nat, f = j * 40 ∧ (f : Int) < 256 ∧ IntKind.i64.wrap ((f : Int) + 40) = (f : Int) + 40 ∧ (((j + 1) * 40 : Nat) : Int) = (f : Int) + 40 ∧ j + 1 ≤ 7 ∧ floatBits .add .f32 0 x = some z ∧ floatBits .add .f32 z y = some s ∧ ((FloatKind.f32.format.order s sm = some .eq ∧ decide ((f : Int) < (bf : Int) * 40) = false) ∨ (FloatKind.f32.format.order s sm = some .lt ∧ ((f : Int) == (bf : Int) * 40) = false)) ∧ (∀ W, Calls Tryz.prog 24 #[.agg (blindC n wd gp tt sh), .agg (sunC hs0 ts0), .int .i64 (f : Int)] W fun e w' => e = .returned (.tuple #[.float .f32 x, .int .i64 0]) ∧ Below W.heap.size W w') ∧ (∀ W, Calls Tryz.prog 24 #[.agg (blindC n wd gp tt sh), .agg (sunC hs1 ts1), .int .i64 (f : Int)] W fun e w' => e = .returned (.tuple #[.float .f32 y, .int .i64 0]) ∧ Below W.heap.size W w')) ∧ ((sunC hs0 ts0 ++ sunC hs1 ts1).extract 0 (0 + 48) = sunC hs0 ts0 ∧ (sunC hs0 ts0 ++ sunC hs1 ts1).extract 48 (48 + 48) = sunC hs1 ts1) ∧ ((sunC hs0 ts0 ++ sunC hs1 ts1).size = 96) := by
  obtain ⟨T0, T1⟩ := blwf_t bw
  obtain ⟨N0, N1⟩ := blwf_n bw
  obtain ⟨ws, hws⟩ : ∃ ws : List Su, ws = [(hs0, ts0), (hs1, ts1)] := ⟨_, rfl⟩
  have hw0 : SuWf (hs0, ts0) := ⟨hh0, ht0, okB_rb hok0⟩
  have hw1 : SuWf (hs1, ts1) := ⟨hh1, ht1, okB_rb hok1⟩
  have hwf : ∀ x ∈ ws, SuWf x := by
    rw [hws]
    intro x hx
    rcases List.mem_cons.1 hx with rfl | hx
    · exact hw0
    · rw [List.mem_singleton.1 hx]; exact hw1
  have hcy : codeY (okBl n wd gp tt sh) ws true = 0 := by
    rw [hws, hbl]
    unfold codeY
    rw [show (true && List.all [(hs0, ts0), (hs1, ts1)] okSu) = true from by simp [okSu, hok0, hok1]]
    rfl
  have hfc : inF fc = true := inB_mk ⟨by omega, by omega⟩
  have HSUN : ∀ W : World, W.heap[b4]? = some (.cells (sunC hs0 ts0 ++ sunC hs1 ts1) 46 (0, 0)) → SunsAt W (.slice (some ⟨b4, 0, none⟩) 2 2) ws := fun W h => by rw [hws]; exact suns_two hh0 ht0 h
  obtain ⟨d0, hd0⟩ : ∃ d, d = dyL wd gp tt sh fc (hs0, ts0) := ⟨_, rfl⟩
  obtain ⟨d1, hd1⟩ : ∃ d, d = dyL wd gp tt sh fc (hs1, ts1) := ⟨_, rfl⟩
  have c0 : d0 ≤ 1103101952 := by rw [hd0]; exact dyL_cap wd gp tt ksh fc hw0 hok0
  have c1 : d1 ≤ 1103101952 := by rw [hd1]; exact dyL_cap wd gp tt ksh fc hw1 hok1
  have emap : ws.map (dyL wd gp tt sh fc) = [d0, d1] := by rw [hws, hd0, hd1]; rfl
  have elen : ws.length = 2 := by rw [hws]; rfl
  obtain ⟨mi, hmi⟩ : ∃ mi, mi = bstI [d0, d1] 2 := ⟨_, rfl⟩
  obtain ⟨top, htop⟩ : ∃ top, top = [d0, d1].getD mi 0 := ⟨_, rfl⟩
  have ct : top < 2139095040 := by rw [htop]; exact pair_cap (by omega) (by omega) mi
  have M0 : d0 ≤ top ∧ (d0 = top → mi ≤ 0) ∧ (mi = 0 → d0 = top) := by
    have h := bst_max (pair_cap (a := d0) (b := d1) (by omega) (by omega)) 2 0 (by omega)
    rw [← hmi, ← htop] at h
    exact ⟨h.1, h.2, fun e => by rw [htop, e]; rfl⟩
  have M1 : d1 ≤ top ∧ (d1 = top → mi ≤ 1) ∧ (mi = 1 → d1 = top) := by
    have h := bst_max (pair_cap (a := d0) (b := d1) (by omega) (by omega)) 2 1 (by omega)
    rw [← hmi, ← htop] at h
    exact ⟨h.1, h.2, fun e => by rw [htop, e]; rfl⟩
  have HYL := fun W h => iYearLight_yes n wd gp tt sh T0 T1 (.slice (some ⟨b4, 0, none⟩) 2 2) ws hwf bw fc true hfc hcy W (HSUN W h)
  have HIM := fun W h => iBestMonth_yes n wd gp tt sh T0 T1 (.slice (some ⟨b4, 0, none⟩) 2 2) ws hwf bw fc true hfc hcy W (HSUN W h)
  have HSM := fun W h => sBestMonth_yes n wd gp tt sh T0 T1 N0 N1 (.slice (some ⟨b4, 0, none⟩) 2 2) ws hwf bw fc true hfc hcy W (HSUN W h)
  rw [emap, elen, ← hmi, ← htop] at HIM HSM
  rw [emap] at HYL
  obtain ⟨bf, hbf⟩ : ∃ bf, bf = bstI (gYr wd gp tt sh ws 40) 7 := ⟨_, rfl⟩
  obtain ⟨sm, hsm⟩ : ∃ sm, sm = (gYr wd gp tt sh ws 40).getD bf 0 := ⟨_, rfl⟩
  have hgc : ∀ j, (gYr wd gp tt sh ws 40).getD j 0 < 2139095040 := by rw [hws]; exact fun j => year_cap wd gp tt ksh hw0 hok0 hw1 hok1 j
  have cs : sm < 2139095040 := by rw [hsm]; exact hgc bf
  have HIY := fun W h => iYearFacing_yes n wd gp tt sh T0 T1 (.slice (some ⟨b4, 0, none⟩) 2 2) ws hwf bw 40 (by decide) (by decide) hcy W (HSUN W h)
  have HSY2 := fun W h => sYearFacing_yes n wd gp tt sh T0 T1 N0 N1 (.slice (some ⟨b4, 0, none⟩) 2 2) ws hwf bw 40 (by decide) (by decide) hcy W (HSUN W h)
  rw [show 255 / 40 + 1 = 7 from rfl, ← hbf, ← hsm] at HIY HSY2
  refine ⟨d0, d1, mi, top, bf, sm, HYL, HIM, HSM, HIY, HSY2, fun W => by rw [hd0]; exact implPassDay_yes n wd gp tt sh hs0 ts0 hh0 ht0 bw fc hbl hok0 hfc W, fun W => by rw [hd1]; exact implPassDay_yes n wd gp tt sh hs1 ts1 hh1 ht1 bw fc hbl hok1 hfc W, ⟨bk_eq (by omega), ?_⟩, ⟨bk_eq (by omega), ?_⟩, fun j hj => ?_, suns_ext hs0 ts0 hs1 ts1 hh0 ht0 hh1 ht1, by rw [Array.size_append, sunC_sizeT hh0 ht0, sunC_sizeT hh1 ht1]⟩
  · clear HYL HIM HSM HIY HSY2 HSUN
    by_cases e : d0 = top
    · exact .inl ⟨by rw [← e]; exact bk_eq (by omega), by have := M0.2.1 e; omega⟩
    · exact .inr ⟨bk_lt ct (by omega), beq_eq_false_iff_ne.2 (fun e4 => e (M0.2.2 (by omega)))⟩
  · clear HYL HIM HSM HIY HSY2 HSUN
    by_cases e : d1 = top
    · exact .inl ⟨by rw [← e]; exact bk_eq (by omega), decide_eq_false (by have := M1.2.1 e; omega)⟩
    · exact .inr ⟨bk_lt ct (by omega), beq_eq_false_iff_ne.2 (fun e4 => e (M1.2.2 (by omega)))⟩
  · clear HYL HIM HSM HIY HSY2 HSUN M0 M1
    have hin : inF ((j * 40 : Nat) : Int) = true := inB_mk ⟨by omega, by omega⟩
    have e := year_two wd gp tt sh (hs0, ts0) (hs1, ts1) hj
    rw [← hws] at e
    have h := bst_max hgc 7 j hj
    rw [← hbf, ← hsm, e] at h
    have t2 := two_cap (dyL_cap wd gp tt ksh ((j * 40 : Nat) : Int) hw0 hok0) (dyL_cap wd gp tt ksh ((j * 40 : Nat) : Int) hw1 hok1)
    have e2 : bf = j → fadd (fadd 0 (dyL wd gp tt sh ((j * 40 : Nat) : Int) (hs0, ts0))) (dyL wd gp tt sh ((j * 40 : Nat) : Int) (hs1, ts1)) = sm := fun e2 => by rw [hsm, e2, e]
    refine ⟨j * 40, _, _, _, _, rfl, by omega, by rw [IntWalk.i64_in _ (by omega)], by omega, by omega, t2.1, t2.2.1, ?_, fun W => implPassDay_yes n wd gp tt sh hs0 ts0 hh0 ht0 bw ((j * 40 : Nat) : Int) hbl hok0 hin W, fun W => implPassDay_yes n wd gp tt sh hs1 ts1 hh1 ht1 bw ((j * 40 : Nat) : Int) hbl hok1 hin W⟩
    have hc := t2.2.2
    generalize fadd (fadd 0 (dyL wd gp tt sh ((j * 40 : Nat) : Int) (hs0, ts0))) (dyL wd gp tt sh ((j * 40 : Nat) : Int) (hs1, ts1)) = s at *
    by_cases e3 : s = sm
    · exact .inl ⟨by rw [← e3]; exact bk_eq (by omega), decide_eq_false (by have := h.2 e3; omega)⟩
    · exact .inr ⟨bk_lt cs (by omega), beq_eq_false_iff_ne.2 (fun e4 => e3 (e2 (by omega)))⟩

theorem ms_f {f : Nat} (z : (f : Int) < 256) : 281 - ((f : Int) + 40).toNat < 281 - ((f : Int)).toNat := by omega

theorem two_or {k : Nat} (h : k ≤ 2) : k = 0 ∨ k = 1 ∨ k = 2 := by omega

theorem bk_round {n : Int} {xs : List Nat} {bd dk : Nat} (N0 : -128 ≤ n) (N1 : n ≤ 127) (hx : xs.length = 24) (hpt : ∀ k : Nat, k < 24 → xs[k]?.getD 0 ≤ 1065353216 ∧ (n ≤ (k : Int) → xs[k]?.getD 0 = 0)) (hbit : ∀ k : Nat, k < 24 → (((dk : Int) / 2 ^ k).tmod 2 == 1) = ltD (xs[k]?.getD 0) bd) : ∀ k : Nat, k < 24 → (k : Int) < 24 ∧ (0 : Int) ≤ (k : Int) ∧ (k : Int) ≤ 32 ∧ IntKind.u64.wrap (k : Int) = (k : Int) ∧ IntKind.i64.wrap n = n ∧ k + 1 ≤ 24 ∧ k < xs.length ∧ ∃ x, x = xs[k]?.getD 0 ∧ x ≤ 1065353216 ∧ (∃ b : Bool, (FloatKind.f32.format.order x bd == some Ordering.lt) = b ∧ (((dk : Int) / 2 ^ k).tmod 2 == 1) = b) ∧ ((decide ((k : Int) ≥ n) = true ∧ x = 0) ∨ decide ((k : Int) ≥ n) = false) := fun k hk => by
  obtain ⟨p1, p2⟩ := hpt k hk
  refine ⟨by omega, by omega, by omega, by rw [IntWalk.u64_in _ (by omega)], by rw [IntWalk.i64_in _ (by omega)], by omega, by omega, _, rfl, p1, ⟨ltD (xs[k]?.getD 0) bd, rfl, hbit k hk⟩, ?_⟩
  by_cases hn : n ≤ (k : Int)
  · exact .inl ⟨decide_eq_true hn, p2 hn⟩
  · exact .inr (decide_eq_false hn)

set_option maxRecDepth 100000 in
set_option maxHeartbeats 8000000 in
theorem FnBroken_walk (a : Option Addr) (n0 cap : Nat) (a' : Option Addr) (n1 cap' : Nat) (w : World) (hc0 : BytesAt w w.heap.size (.slice a n0 cap) n0) (hc1 : BytesAt w w.heap.size (.slice a' n1 cap') n1) (hE : ErrT w) :
    Calls Tryz.prog 3 #[.slice a n0 cap, .slice a' n1 cap'] w fun e w' => e = .returned (.bool true) ∧ Below w.heap.size w w' := by
  have HLG := Lib.hid (fun w => a2Long_any n0 cap n1 cap' a a' w)
  have HC0 := Lib.hid hc0
  have HC1 := Lib.hid hc1
  have HE := Lib.hid hE
  clear hc0 hc1 hE
  generalize (decide (3000 < n0) || decide (3000 < n1)) = lg at *
  cases lg with
  | true =>
    go_enter Tryz.func3, Tryz.ntmps3
    go_wp2_with (go_at_call 4; refine (HLG.out _).mono ?_; rintro e w' ⟨rfl, rfl⟩)
    go_ret
    exact ⟨rfl, Below.refl _ _⟩
  | false =>
    have HAB := Lib.hid (A2Blind_any n0 cap a w HC0.out)
    go_enter Tryz.func3, Tryz.ntmps3
    go_upto_region 4 with (first | (go_at_call 4; refine (HLG.out _).mono ?_; rintro e w' ⟨rfl, rfl⟩) | (go_at_call 5; refine HAB.out.mono ?_; rintro e W1 ⟨⟨n, wd, gp, tt, sh, rfl, hk⟩, hb⟩) | (refine wpList_store_part rfl 28 _ _ rfl _ 0 (blindC n wd gp tt sh) rfl rfl 28 _ (heap_alloc_new _ _) info_blind (Nat.le_refl _) (blind_oneB _ _ _ _ _) ?_; rw [laid_all _ _ (by rfl)]))
    refine abs_code (fun V => V.heap[W1.heap.size]? = some (.cells (blindC n wd gp tt sh) 28 (0, 0)) ∧ Below w.heap.size w V) ⟨setRow_heap _ _ _ _ _ _ (heap_alloc_new _ _), fresh_rowB hb hb.size⟩ ?_
    have hle : w.heap.size ≤ W1.heap.size := hb.size
    clear hb HAB HLG
    generalize W1.heap.size = b0 at *
    rintro V0 ⟨h0, hb⟩
    have H0 := Lib.hid h0
    clear h0
    obtain ⟨hbl, bw⟩ := drawn_ok hk
    obtain ⟨T0, T1⟩ := blwf_t bw
    obtain ⟨N0, N1⟩ := blwf_n bw
    have OK := blok_of bw hbl
    obtain ⟨k1, k60, -, -, -, -, ksh⟩ := hk
    go_upto_region 5 with (first | (refine wpList_load_part rfl 28 _ rfl b0 0 5 rfl 28 (blindC n wd gp tt sh) (0, 0) _ H0.out Tryz.underlying28 rfl info_blind (blind_fits _ _ _ _ _) (blindC n wd gp tt sh) (blind_all _ _ _ _ _) ?_) | (go_at_call 6; refine (A2Bits_any n1 cap' a' n wd gp tt sh k1 k60 _ (bytes_below HC1.out hb hb.size)).mono ?_; rintro e W1 ⟨⟨br, rfl, hbr⟩, hb1⟩; replace H0 := Lib.hid (below_row hb1 H0.out); replace hb := hb.trans (hb1.mono hb.size); clear hb1))
    go_upto_region 6 with (go_at_call 7; refine (a2At_any n1 cap' a' 4 64 (by decide) (by decide) (by decide) w.heap.size _ (bytes_below HC1.out hb (Nat.le_refl _))).mono ?_; rintro e W1 ⟨⟨hr, rfl, r0, r1⟩, rfl⟩; have v1 : IntKind.i64.wrap (1 + hr) = 1 + hr := (by rw [IntWalk.i64_in _ (by omega)]))
    clear v1
    have p1 : 1 ≤ 1 + hr := by omega
    have p2 : 1 + hr ≤ 64 := by omega
    clear r0 r1
    generalize 1 + hr = hh at *
    go_upto_region 7 with (go_at_call 8; refine (A2Part_any n1 cap' a' _ (bytes_below HC1.out hb hb.size)).mono ?_; rintro e W1 ⟨⟨bd, rfl, hbd⟩, hb1⟩; replace H0 := Lib.hid (below_row hb1 H0.out); replace hb := hb.trans (hb1.mono hb.size); clear hb1)
    obtain ⟨m, hm⟩ : ∃ m, m = (mB n).toNat := ⟨_, rfl⟩
    have hmn : mB n = (m : Int) := by rw [hm]; unfold mB; split <;> omega
    have hm24 : m ≤ 24 := by have := mB_le n; omega
    rw [← hm] at hbr
    have hbr2 : br < 4294967296 := by have : 2 ^ m ≤ 2 ^ 24 := Nat.pow_le_pow_right (by decide) hm24; omega
    have hfit : fitB br n = true := by unfold fitB; rw [← hm]; exact decide_eq_true hbr
    have hi : inI 1 64 hh = true := inB_mk ⟨p1, p2⟩
    have hwh : opnB wd gp tt hh ≤ 1065353216 := (opn_facts wd gp tt hh).2
    have hhg : opnB wd gp (hgT tt) hh ≤ 1065353216 := (opn_facts wd gp (hgT tt) hh).2
    obtain ⟨kn, hkn⟩ : ∃ kn, kn = packP (sbP (flK (flP (opnB wd gp tt hh) (opnB wd gp (hgT tt) hh) br m) 24) (opnB wd gp tt hh) (opnB wd gp (hgT tt) hh) m) 24 := ⟨_, rfl⟩
    obtain ⟨kor, klt, ksame⟩ := flr_again (opnB wd gp tt hh) (opnB wd gp (hgT tt) hh) br m hm24 hbr hkn
    have hkn2 : kn < 4294967296 := by have : 2 ^ m ≤ 2 ^ 24 := Nat.pow_le_pow_right (by decide) hm24; omega
    have hfit2 : fitB kn n = true := by unfold fitB; rw [← hm]; exact decide_eq_true klt
    have edue : flB n wd gp tt hh br = flK (flP (opnB wd gp tt hh) (opnB wd gp (hgT tt) hh) br m) 24 := by unfold flB; rw [← hm]
    have eagn : flB n wd gp tt hh kn = flK (flP (opnB wd gp tt hh) (opnB wd gp (hgT tt) hh) kn m) 24 := by unfold flB; rw [← hm]
    have HiF := Lib.hid (fun W => iFloor_yes n wd gp tt sh T0 T1 OK hbl hh hi br hbr2 hfit W)
    have HsF := Lib.hid (fun W => sFloor_yes n wd gp tt sh T0 T1 N0 N1 OK hbl hh hi br hfit W)
    have HiA := Lib.hid (fun W => iFloor_yes n wd gp tt sh T0 T1 OK hbl hh hi kn hkn2 hfit2 W)
    rw [eagn] at HiA
    rw [edue] at HiF HsF
    have ex : (flK (flP (opnB wd gp tt hh) (opnB wd gp (hgT tt) hh) br m) 24).length = 24 := flK_len _ (Nat.le_refl _)
    have ey : (flK (flP (opnB wd gp tt hh) (opnB wd gp (hgT tt) hh) kn m) 24).length = 24 := flK_len _ (Nat.le_refl _)
    have hgd := gdR_yes (flr_good (opnB wd gp tt hh) (opnB wd gp (hgT tt) hh) br m)
    have HiB := Lib.hid (fun W hE => iBroken_yes n wd gp tt sh T0 T1 OK hbl hh hi _ ex W hE)
    have HsB := Lib.hid (fun W => sBroken_yes n wd gp tt sh T0 T1 N0 N1 OK hbl hh hi _ ex W)
    rw [← hm, hgd.1, hgd.2, ← hkn] at HiB HsB
    have hpt : ∀ k : Nat, k < 24 → (flK (flP (opnB wd gp tt hh) (opnB wd gp (hgT tt) hh) br m) 24)[k]?.getD 0 ≤ 1065353216 ∧ (n ≤ (k : Int) → (flK (flP (opnB wd gp tt hh) (opnB wd gp (hgT tt) hh) br m) 24)[k]?.getD 0 = 0) := fun k hk => by
      rw [flK_get _ hk]
      refine ⟨flP_le hwh hhg k, fun hnk => ?_⟩
      unfold flP
      rw [if_neg (by have : mB n ≤ n := (by unfold mB; split <;> omega); omega)]
    clear eagn edue hkn hfit hfit2 hbr2 hkn2 hgd hwh hhg hi hmn hm klt hm24 hbr
    generalize flK (flP (opnB wd gp tt hh) (opnB wd gp (hgT tt) hh) br m) 24 = xs at *
    generalize flK (flP (opnB wd gp tt hh) (opnB wd gp (hgT tt) hh) kn m) 24 = ys at *
    have HX := Lib.hid ex
    have HY := Lib.hid ey
    have HPT := Lib.hid hpt
    have HSY := Lib.hid (SameFloor_any ys xs ey ex)
    have HSZ := Lib.hid (specSameFloor_any ys xs ey ex)
    have HSX := Lib.hid (specSameFloor_any xs xs ex ex)
    have hxx : sameL xs xs = true := by unfold sameL; rw [List.all_eq_true]; rintro ⟨u, v⟩ huv; rw [List.zip_eq_zipWith, List.zipWith_self] at huv; simp at huv; obtain ⟨_, _, rfl, rfl⟩ := huv; exact sameB_rfl _
    rw [ksame] at HSY HSZ
    rw [hxx] at HSX
    have HDK := Lib.hid (fun W => iDark_yes xs ex bd (tone_part hbd) W)
    clear ex ey hpt ksame hxx
    as_aux_lemma =>
      go_upto_region 8 with (first | (refine wpList_load_part rfl 28 _ rfl b0 0 5 rfl 28 (blindC n wd gp tt sh) (0, 0) _ H0.out Tryz.underlying28 rfl info_blind (blind_fits _ _ _ _ _) (blindC n wd gp tt sh) (blind_all _ _ _ _ _) ?_) | (go_at_call 9; refine (HiF.out _).mono ?_; rintro e W2 ⟨rfl, hb1⟩; replace H0 := Lib.hid (below_row hb1 H0.out); replace hb := hb.trans (hb1.mono hb.size); clear hb1) | (refine wpList_store_part rfl 35 _ _ rfl _ 0 (f32s xs) rfl rfl 35 _ (heap_alloc_new _ _) (by rw [f32s_size, HX.out]; exact info_floor) (by rw [f32s_size, HX.out]; decide) (f32s_one _) ?_; rw [laid_all _ _ (by rw [f32s_size, HX.out]; rfl)]))
      have hl1 : b0 < W2.heap.size := row_lt H0.out
      refine abs_code (fun V => V.heap[b0]? = some (.cells (blindC n wd gp tt sh) 28 (0, 0)) ∧ V.heap[W2.heap.size]? = some (.cells (f32s xs) 35 (0, 0)) ∧ Below w.heap.size w V) ⟨((alloc_row _ _).block _ (row_lt H0.out) (by simp)).trans H0.out, setRow_heap _ _ _ _ _ _ (heap_alloc_new _ _), fresh_rowB hb hb.size⟩ ?_
      have hle1 : w.heap.size ≤ W2.heap.size := hb.size
      clear hb H0 HiF
      generalize W2.heap.size = b1 at *
      rintro V1 ⟨h0, h1, hb⟩
      have H0 := Lib.hid h0
      have H1 := Lib.hid h1
      clear h0 h1
      go_upto_region 9 with (first | (refine wpList_load_part rfl 28 _ rfl b0 0 5 rfl 28 (blindC n wd gp tt sh) (0, 0) _ H0.out Tryz.underlying28 rfl info_blind (blind_fits _ _ _ _ _) (blindC n wd gp tt sh) (blind_all _ _ _ _ _) ?_) | (go_at_call 10; refine (HsF.out _).mono ?_; rintro e W3 ⟨rfl, hb1⟩; replace H0 := Lib.hid (below_row hb1 H0.out); replace H1 := Lib.hid (below_row hb1 H1.out); replace hb := hb.trans (hb1.mono hb.size); clear hb1) | (refine wpList_store_part rfl 35 _ _ rfl _ 0 (f32s xs) rfl rfl 35 _ (heap_alloc_new _ _) (by rw [f32s_size, HX.out]; exact info_floor) (by rw [f32s_size, HX.out]; decide) (f32s_one _) ?_; rw [laid_all _ _ (by rw [f32s_size, HX.out]; rfl)]))
      have hl2 : b1 < W3.heap.size := row_lt H1.out
      refine abs_code (fun V => V.heap[b0]? = some (.cells (blindC n wd gp tt sh) 28 (0, 0)) ∧ V.heap[b1]? = some (.cells (f32s xs) 35 (0, 0)) ∧ V.heap[W3.heap.size]? = some (.cells (f32s xs) 35 (0, 0)) ∧ Below w.heap.size w V) ⟨((alloc_row _ _).block _ (row_lt H0.out) (by simp)).trans H0.out, ((alloc_row _ _).block _ (row_lt H1.out) (by simp)).trans H1.out, setRow_heap _ _ _ _ _ _ (heap_alloc_new _ _), fresh_rowB hb hb.size⟩ ?_
      have hle2 : w.heap.size ≤ W3.heap.size := hb.size
      clear hb H0 H1 HsF
      generalize W3.heap.size = b2 at *
      rintro V2 ⟨h0, h1, h2, hb⟩
      have H0 := Lib.hid h0
      have H1 := Lib.hid h1
      have H2 := Lib.hid h2
      clear h0 h1 h2
      go_upto_region 10 with (first | (refine wpList_load_part rfl 28 _ rfl b0 0 5 rfl 28 (blindC n wd gp tt sh) (0, 0) _ H0.out Tryz.underlying28 rfl info_blind (blind_fits _ _ _ _ _) (blindC n wd gp tt sh) (blind_all _ _ _ _ _) ?_) | (refine wpList_load_part rfl 35 _ rfl b2 0 24 rfl 35 (f32s xs) (0, 0) _ H2.out Tryz.underlying35 rfl info_floor (by rw [f32s_size, HX.out]; decide) (f32s xs) (f32s_all _ 24 HX.out) ?_) | (go_at_call 11; refine (HiB.out _ (errT_below HE.out hb)).mono ?_; rintro e W1 ⟨rfl, hb1⟩; replace H0 := Lib.hid (below_row hb1 H0.out); replace H1 := Lib.hid (below_row hb1 H1.out); replace H2 := Lib.hid (below_row hb1 H2.out); replace hb := hb.trans (hb1.mono hb.size); clear hb1))
      clear HiB
      go_upto_region 11 with (first | (refine wpList_load_part rfl 28 _ rfl b0 0 5 rfl 28 (blindC n wd gp tt sh) (0, 0) _ H0.out Tryz.underlying28 rfl info_blind (blind_fits _ _ _ _ _) (blindC n wd gp tt sh) (blind_all _ _ _ _ _) ?_) | (refine wpList_load_part rfl 35 _ rfl b2 0 24 rfl 35 (f32s xs) (0, 0) _ H2.out Tryz.underlying35 rfl info_floor (by rw [f32s_size, HX.out]; decide) (f32s xs) (f32s_all _ 24 HX.out) ?_) | (go_at_call 12; refine (HsB.out _).mono ?_; rintro e W1 ⟨rfl, hb1⟩; replace H0 := Lib.hid (below_row hb1 H0.out); replace H1 := Lib.hid (below_row hb1 H1.out); replace H2 := Lib.hid (below_row hb1 H2.out); replace hb := hb.trans (hb1.mono hb.size); clear hb1))
      clear HsB
      go_upto_region 12 with (first | (refine wpList_load_part rfl 28 _ rfl b0 0 5 rfl 28 (blindC n wd gp tt sh) (0, 0) _ H0.out Tryz.underlying28 rfl info_blind (blind_fits _ _ _ _ _) (blindC n wd gp tt sh) (blind_all _ _ _ _ _) ?_) | (go_at_call 9; refine (HiA.out _).mono ?_; rintro e W4 ⟨rfl, hb1⟩; replace H0 := Lib.hid (below_row hb1 H0.out); replace H1 := Lib.hid (below_row hb1 H1.out); replace H2 := Lib.hid (below_row hb1 H2.out); replace hb := hb.trans (hb1.mono hb.size); clear hb1) | (refine wpList_store_part rfl 35 _ _ rfl _ 0 (f32s ys) rfl rfl 35 _ (heap_alloc_new _ _) (by rw [f32s_size, HY.out]; exact info_floor) (by rw [f32s_size, HY.out]; decide) (f32s_one _) ?_; rw [laid_all _ _ (by rw [f32s_size, HY.out]; rfl)]))
      have hl3 : b2 < W4.heap.size := row_lt H2.out
      refine abs_code (fun V => V.heap[b0]? = some (.cells (blindC n wd gp tt sh) 28 (0, 0)) ∧ V.heap[b1]? = some (.cells (f32s xs) 35 (0, 0)) ∧ V.heap[b2]? = some (.cells (f32s xs) 35 (0, 0)) ∧ V.heap[W4.heap.size]? = some (.cells (f32s ys) 35 (0, 0)) ∧ Below w.heap.size w V) ⟨((alloc_row _ _).block _ (row_lt H0.out) (by simp)).trans H0.out, ((alloc_row _ _).block _ (row_lt H1.out) (by simp)).trans H1.out, ((alloc_row _ _).block _ (row_lt H2.out) (by simp)).trans H2.out, setRow_heap _ _ _ _ _ _ (heap_alloc_new _ _), fresh_rowB hb hb.size⟩ ?_
      have hle3 : w.heap.size ≤ W4.heap.size := hb.size
      clear hb H0 H1 H2 HiA
      generalize W4.heap.size = b3 at *
      rintro V3 ⟨h0, h1, h2, h3, hb⟩
      have H0 := Lib.hid h0
      have H1 := Lib.hid h1
      have H2 := Lib.hid h2
      have H3 := Lib.hid h3
      clear h0 h1 h2 h3
      as_aux_lemma =>
        go_upto_region 13 with (first | (refine wpList_load_part rfl 35 _ rfl b2 0 24 rfl 35 (f32s xs) (0, 0) _ H2.out Tryz.underlying35 rfl info_floor (by rw [f32s_size, HX.out]; decide) (f32s xs) (f32s_all _ 24 HX.out) ?_) | (go_at_call 13; refine (HDK.out _).mono ?_; rintro e W1 ⟨rfl, hb1⟩; replace H0 := Lib.hid (below_row hb1 H0.out); replace H1 := Lib.hid (below_row hb1 H1.out); replace H2 := Lib.hid (below_row hb1 H2.out); replace H3 := Lib.hid (below_row hb1 H3.out); replace hb := hb.trans (hb1.mono hb.size); clear hb1))
        have hbit : ∀ k : Nat, k < 24 → ((((packP (darkP xs bd) 24 : Nat) : Int) / 2 ^ k).tmod 2 == 1) = ltD (xs[k]?.getD 0) bd := fun k hk => by rw [bit_spec, packP_bit, decide_eq_true hk, Bool.true_and]; rfl
        clear HDK
        generalize packP (darkP xs bd) 24 = dk at *
        have HBT : Hid (∀ k : Nat, k < 24 → (k : Int) < 24 ∧ (0 : Int) ≤ (k : Int) ∧ (k : Int) ≤ 32 ∧ IntKind.u64.wrap (k : Int) = (k : Int) ∧ IntKind.i64.wrap n = n ∧ k + 1 ≤ 24 ∧ k < xs.length ∧ ∃ x, x = xs[k]?.getD 0 ∧ x ≤ 1065353216 ∧ (∃ b : Bool, (FloatKind.f32.format.order x bd == some Ordering.lt) = b ∧ (((dk : Int) / 2 ^ k).tmod 2 == 1) = b) ∧ ((decide ((k : Int) ≥ n) = true ∧ x = 0) ∨ decide ((k : Int) ≥ n) = false)) := Lib.hid (bk_round N0 N1 HX.out HPT.out hbit)
        clear hbit HPT
        go_cut [156] from 47 (fun c wx => c = .bool false ∧ wx.heap[b0]? = some (.cells (blindC n wd gp tt sh) 28 (0, 0)) ∧ wx.heap[b2]? = some (.cells (f32s xs) 35 (0, 0)) ∧ Below w.heap.size w wx)
        case first =>
          have hxy : (br : Int) = (br : Int) := rfl
          by_cases e1 : kn = br
          · as_aux_lemma =>
              have e2 : ((kn : Int) != (br : Int)) = false := by rw [kn_u32, e1]; simp
              clear kor e1
              go_wp2_with (first | (refine wpList_load_partG 35 _ rfl b1 0 24 rfl rfl 35 (f32s xs) (0, 0) _ H1.out Tryz.underlying35 rfl info_floor (by rw [f32s_size, HX.out]; decide) (f32s xs) (f32s_all _ 24 HX.out) ?_) | (refine wpList_load_partG 35 _ rfl b2 0 24 rfl rfl 35 (f32s xs) (0, 0) _ H2.out Tryz.underlying35 rfl info_floor (by rw [f32s_size, HX.out]; decide) (f32s xs) (f32s_all _ 24 HX.out) ?_) | (refine wpList_load_partG 35 _ rfl b3 0 24 rfl rfl 35 (f32s ys) (0, 0) _ H3.out Tryz.underlying35 rfl info_floor (by rw [f32s_size, HY.out]; decide) (f32s ys) (f32s_all _ 24 HY.out) ?_) | (go_at_call 14; with_reducible refine (HSX.out _).mono ?_; rintro e W1 ⟨rfl, hb1⟩; replace H0 := Lib.hid (below_row hb1 H0.out); replace H1 := Lib.hid (below_row hb1 H1.out); replace H2 := Lib.hid (below_row hb1 H2.out); replace H3 := Lib.hid (below_row hb1 H3.out); replace hb := hb.trans (hb1.mono hb.size); clear hb1) | (go_at_call 14; with_reducible refine (HSZ.out _).mono ?_; rintro e W1 ⟨rfl, hb1⟩; replace H0 := Lib.hid (below_row hb1 H0.out); replace H1 := Lib.hid (below_row hb1 H1.out); replace H2 := Lib.hid (below_row hb1 H2.out); replace H3 := Lib.hid (below_row hb1 H3.out); replace hb := hb.trans (hb1.mono hb.size); clear hb1) | (go_at_call 15; refine (HSY.out _).mono ?_; rintro e W1 ⟨rfl, hb1⟩; replace H0 := Lib.hid (below_row hb1 H0.out); replace H1 := Lib.hid (below_row hb1 H1.out); replace H2 := Lib.hid (below_row hb1 H2.out); replace H3 := Lib.hid (below_row hb1 H3.out); replace hb := hb.trans (hb1.mono hb.size); clear hb1))
              go_meet
              case rel => exact ⟨rfl, H0.out, H2.out, hb⟩
          · as_aux_lemma =>
              have e2 : ((kn : Int) != (br : Int)) = true := by rw [kn_u32]; simpa using e1
              have e3 : ((kn : Int) != 0) = false := by rw [kor.resolve_left e1]; rfl
              clear kor
              go_wp2_with (first | (refine wpList_load_partG 35 _ rfl b1 0 24 rfl rfl 35 (f32s xs) (0, 0) _ H1.out Tryz.underlying35 rfl info_floor (by rw [f32s_size, HX.out]; decide) (f32s xs) (f32s_all _ 24 HX.out) ?_) | (refine wpList_load_partG 35 _ rfl b2 0 24 rfl rfl 35 (f32s xs) (0, 0) _ H2.out Tryz.underlying35 rfl info_floor (by rw [f32s_size, HX.out]; decide) (f32s xs) (f32s_all _ 24 HX.out) ?_) | (refine wpList_load_partG 35 _ rfl b3 0 24 rfl rfl 35 (f32s ys) (0, 0) _ H3.out Tryz.underlying35 rfl info_floor (by rw [f32s_size, HY.out]; decide) (f32s ys) (f32s_all _ 24 HY.out) ?_) | (go_at_call 14; with_reducible refine (HSX.out _).mono ?_; rintro e W1 ⟨rfl, hb1⟩; replace H0 := Lib.hid (below_row hb1 H0.out); replace H1 := Lib.hid (below_row hb1 H1.out); replace H2 := Lib.hid (below_row hb1 H2.out); replace H3 := Lib.hid (below_row hb1 H3.out); replace hb := hb.trans (hb1.mono hb.size); clear hb1) | (go_at_call 14; with_reducible refine (HSZ.out _).mono ?_; rintro e W1 ⟨rfl, hb1⟩; replace H0 := Lib.hid (below_row hb1 H0.out); replace H1 := Lib.hid (below_row hb1 H1.out); replace H2 := Lib.hid (below_row hb1 H2.out); replace H3 := Lib.hid (below_row hb1 H3.out); replace hb := hb.trans (hb1.mono hb.size); clear hb1) | (go_at_call 15; refine (HSY.out _).mono ?_; rintro e W1 ⟨rfl, hb1⟩; replace H0 := Lib.hid (below_row hb1 H0.out); replace H1 := Lib.hid (below_row hb1 H1.out); replace H2 := Lib.hid (below_row hb1 H2.out); replace H3 := Lib.hid (below_row hb1 H3.out); replace hb := hb.trans (hb1.mono hb.size); clear hb1))
              go_meet
              case rel => exact ⟨rfl, H0.out, H2.out, hb⟩
        case rest =>
          as_aux_lemma =>
            clear H0 H1 H2 H3 hb HSX HSY HSZ kor
            obtain ⟨rfl, h0, h2, hb⟩ := hcut
            have H0 := Lib.hid h0
            have H2 := Lib.hid h2
            clear h0 h2
            go_upto_region 16 with (fail)
            go_loopw [21] (fun i wr => ∃ k : Nat, k ≤ 24 ∧ i = .int .i64 (k : Int) ∧ wr.heap[b0]? = some (.cells (blindC n wd gp tt sh) 28 (0, 0)) ∧ wr.heap[b2]? = some (.cells (f32s xs) 35 (0, 0)) ∧ Below w.heap.size w wr) (fun i _ => 24 - (intOf i).toNat)
            case atStart => exact ⟨0, Nat.zero_le _, rfl, H0.out, H2.out, hb⟩
            case round =>
              clear H0 H2 hb
              obtain ⟨k, hk, rfl, h0, h2, hb⟩ := hrel
              have H0 := Lib.hid h0
              have H2 := Lib.hid h2
              by_cases hlt : k < 24
              · as_aux_lemma =>
                  obtain ⟨z1, z2, z5, z6, z7, hk1, hkx, x, hx, pt, ⟨b, hv2, bt⟩, hor⟩ := HBT.out k hlt
                  have hc2 := cell_of_f32s h2 k hkx
                  rw [← hx] at hc2
                  obtain ⟨k0, -, -, -, -⟩ := blind_cells h0
                  have HIP := Lib.hid (fun W => IsPart_b x pt W)
                  clear h0 h2 hx pt hkx
                  rcases hor with ⟨hd2, rfl⟩ | hd2
                  · have o0 : FloatKind.f32.format.order 0 0 = some .eq := bk_eq (by decide)
                    cases b with
                    | true =>
                      as_aux_lemma =>
                        go_wp2_with (go_at_call 16; refine (HIP.out _).mono ?_; rintro e w' ⟨rfl, rfl⟩)
                        go_roundw
                        case rel => go_light; exact ⟨k + 1, hk1, by go_num, H0.out, H2.out, hb⟩
                        case measure => go_light; simp [intOf]; omega
                    | false =>
                      as_aux_lemma =>
                        go_wp2_with (go_at_call 16; refine (HIP.out _).mono ?_; rintro e w' ⟨rfl, rfl⟩)
                        go_roundw
                        case rel => go_light; exact ⟨k + 1, hk1, by go_num, H0.out, H2.out, hb⟩
                        case measure => go_light; simp [intOf]; omega
                  · cases b with
                    | true =>
                      as_aux_lemma =>
                        go_wp2_with (go_at_call 16; refine (HIP.out _).mono ?_; rintro e w' ⟨rfl, rfl⟩)
                        go_roundw
                        case rel => go_light; exact ⟨k + 1, hk1, by go_num, H0.out, H2.out, hb⟩
                        case measure => go_light; simp [intOf]; omega
                    | false =>
                      as_aux_lemma =>
                        go_wp2_with (go_at_call 16; refine (HIP.out _).mono ?_; rintro e w' ⟨rfl, rfl⟩)
                        go_roundw
                        case rel => go_light; exact ⟨k + 1, hk1, by go_num, H0.out, H2.out, hb⟩
                        case measure => go_light; simp [intOf]; omega
              · as_aux_lemma =>
                  obtain rfl : k = 24 := Nat.le_antisymm hk (Nat.le_of_not_lt hlt)
                  clear H2 h0 h2 hlt hk HBT HX HY
                  have HA0 := Lib.hid (fun V h => A2Sun_any n0 cap a V h)
                  have HA1 := Lib.hid (fun V h => A2Sun_any n1 cap' a' V h)
                  go_upto_region 21 with (first | (go_at_call 17; with_reducible refine (HA0.out _ (bytes_below HC0.out hb hb.size)).mono ?_; rintro e W5 ⟨⟨hs0, ts0, rfl, hh0, ht0, hok0⟩, hb1⟩; replace H0 := Lib.hid (below_row hb1 H0.out); replace hb := hb.trans (hb1.mono hb.size); clear hb1) | (go_at_call 17; with_reducible refine (HA1.out _ (bytes_below HC1.out hb hb.size)).mono ?_; rintro e W6 ⟨⟨hs1, ts1, rfl, hh1, ht1, hok1⟩, hb1⟩; replace H0 := Lib.hid (below_row hb1 H0.out); replace hb := hb.trans (hb1.mono hb.size); clear hb1) | (refine wpList_buildSliceS rfl 48 46 2 _ rfl _ rfl _ rfl Tryz.underlying48 (sunC hs0 ts0 ++ sunC hs1 ts1) [(0, .agg (sunC hs0 ts0)), (1, .agg (sunC hs1 ts1))] rfl (built_suns _ _ _ _ hh0 ht0 hh1 ht1) ?_))
                  have hl4 : b0 < W6.heap.size := row_lt H0.out
                  refine abs_code (fun V => V.heap[b0]? = some (.cells (blindC n wd gp tt sh) 28 (0, 0)) ∧ V.heap[W6.heap.size]? = some (.cells (sunC hs0 ts0 ++ sunC hs1 ts1) 46 (0, 0)) ∧ Below w.heap.size w V) ⟨below_row ((Below.refl _ _).alloc (Nat.le_refl _) _) H0.out, heap_alloc_new _ _, hb.alloc hb.size _⟩ ?_
                  have hle1 : w.heap.size ≤ W6.heap.size := hb.size
                  clear hb H0 HA0 HA1
                  generalize W6.heap.size = b4 at *
                  rintro V1 ⟨h0, h1, hb⟩
                  have H0 := Lib.hid h0
                  have H1 := Lib.hid h1
                  clear h0 h1
                  go_upto_region 22 with (go_at_call 7; refine (a2At_any n0 cap a 0 256 (by decide) (by decide) (by decide) w.heap.size _ (bytes_below HC0.out hb (Nat.le_refl _))).mono ?_; rintro e W1 ⟨⟨fc, rfl, f0, f1⟩, rfl⟩)
                  obtain ⟨d0, d1, mi, top, bf, sm, y0, y1, y2, y3, y4, y5, y6, y7, y8, y9, y10, y11⟩ := bk_year n wd gp tt sh hbl bw ksh fc f0 f1 hs0 ts0 hs1 ts1 hh0 ht0 hok0 hh1 ht1 hok1 b4
                  have HYL := Lib.hid y0
                  have HIM := Lib.hid y1
                  have HSM := Lib.hid y2
                  have HIY := Lib.hid y3
                  have HSY2 := Lib.hid y4
                  have HP0 := Lib.hid y5
                  have HP1 := Lib.hid y6
                  have HM0 := Lib.hid y7
                  have HM1 := Lib.hid y8
                  have HJ := Lib.hid y9
                  have HEX := Lib.hid y10
                  have HSZ := Lib.hid y11
                  clear y0 y1 y2 y3 y4 y5 y6 y7 y8 y9 y10 y11 hok0 hok1 hh0 ht0 hh1 ht1 f0 f1 T0 T1 N0 N1 OK bw hbl ksh HC0 HC1 HE k1 k60 p1 p2 hbd hl4 hle1
                  as_aux_lemma =>
                    go_upto_region 23 with (first | (refine wpList_load_part rfl 28 _ rfl b0 0 5 rfl 28 (blindC n wd gp tt sh) (0, 0) _ H0.out Tryz.underlying28 rfl info_blind (blind_fits _ _ _ _ _) (blindC n wd gp tt sh) (blind_all _ _ _ _ _) ?_) | (go_at_call 18; refine (HYL.out _ H1.out).mono ?_; rintro e W7 ⟨⟨v, rfl, hv⟩, hb1⟩; replace H0 := Lib.hid (below_row hb1 H0.out); replace H1 := Lib.hid (below_row hb1 H1.out); replace hb := hb.trans (hb1.mono hb.size); clear hb1))
                    clear HYL
                    obtain ⟨ay, cy, rfl, hv2⟩ : ∃ ay cy, v = .slice ay 2 cy ∧ FloatsAt W7 (.slice ay 2 cy) [d0, d1] := by
                      obtain ⟨a9, c9, e9, h9⟩ := own_floats hv
                      exact ⟨a9, c9, e9, ⟨a9, c9, rfl, h9⟩⟩
                    have HV := Lib.hid hv2
                    clear hv hv2
                    go_upto_region 24 with (first | (refine wpList_load_part rfl 28 _ rfl b0 0 5 rfl 28 (blindC n wd gp tt sh) (0, 0) _ H0.out Tryz.underlying28 rfl info_blind (blind_fits _ _ _ _ _) (blindC n wd gp tt sh) (blind_all _ _ _ _ _) ?_) | (go_at_call 19; refine (HIM.out _ H1.out).mono ?_; rintro e W1 ⟨rfl, hb1⟩; replace HV := Lib.hid (floats_below HV.out hb1); replace H0 := Lib.hid (below_row hb1 H0.out); replace H1 := Lib.hid (below_row hb1 H1.out); replace hb := hb.trans (hb1.mono hb.size); clear hb1))
                    go_upto_region 25 with (first | (refine wpList_load_part rfl 28 _ rfl b0 0 5 rfl 28 (blindC n wd gp tt sh) (0, 0) _ H0.out Tryz.underlying28 rfl info_blind (blind_fits _ _ _ _ _) (blindC n wd gp tt sh) (blind_all _ _ _ _ _) ?_) | (go_at_call 20; refine (HSM.out _ H1.out).mono ?_; rintro e W1 ⟨rfl, hb1⟩; replace HV := Lib.hid (floats_below HV.out hb1); replace H0 := Lib.hid (below_row hb1 H0.out); replace H1 := Lib.hid (below_row hb1 H1.out); replace hb := hb.trans (hb1.mono hb.size); clear hb1))
                    go_upto_region 26 with (first | (refine wpList_load_part rfl 28 _ rfl b0 0 5 rfl 28 (blindC n wd gp tt sh) (0, 0) _ H0.out Tryz.underlying28 rfl info_blind (blind_fits _ _ _ _ _) (blindC n wd gp tt sh) (blind_all _ _ _ _ _) ?_) | (go_at_call 21; refine (HIY.out _ H1.out).mono ?_; rintro e W1 ⟨rfl, hb1⟩; replace HV := Lib.hid (floats_below HV.out hb1); replace H0 := Lib.hid (below_row hb1 H0.out); replace H1 := Lib.hid (below_row hb1 H1.out); replace hb := hb.trans (hb1.mono hb.size); clear hb1))
                    go_upto_region 27 with (first | (refine wpList_load_part rfl 28 _ rfl b0 0 5 rfl 28 (blindC n wd gp tt sh) (0, 0) _ H0.out Tryz.underlying28 rfl info_blind (blind_fits _ _ _ _ _) (blindC n wd gp tt sh) (blind_all _ _ _ _ _) ?_) | (go_at_call 22; refine (HSY2.out _ H1.out).mono ?_; rintro e W1 ⟨rfl, hb1⟩; replace HV := Lib.hid (floats_below HV.out hb1); replace H0 := Lib.hid (below_row hb1 H0.out); replace H1 := Lib.hid (below_row hb1 H1.out); replace hb := hb.trans (hb1.mono hb.size); clear hb1))
                    clear HIM HSM HIY HSY2
                    go_upto_region 30 with (go_at_call 23; refine (spSame_b _ _).mono ?_; rintro e w' ⟨rfl, rfl⟩)
                    as_aux_lemma =>
                      go_loopw [38] (fun i wr => ∃ k : Nat, k ≤ 2 ∧ i = .int .i64 (k : Int) ∧ wr.heap[b0]? = some (.cells (blindC n wd gp tt sh) 28 (0, 0)) ∧ wr.heap[b4]? = some (.cells (sunC hs0 ts0 ++ sunC hs1 ts1) 46 (0, 0)) ∧ FloatsAt wr (.slice ay 2 cy) [d0, d1] ∧ Below w.heap.size w wr) (fun i _ => 2 - (intOf i).toNat)
                      case atStart => exact ⟨0, Nat.zero_le _, rfl, H0.out, H1.out, HV.out, hb⟩
                      case round =>
                        clear H0 H1 HV hb
                        obtain ⟨k, hk, rfl, h0, h1, hv, hb⟩ := hrel
                        have H0 := Lib.hid h0
                        have H1 := Lib.hid h1
                        have HV := Lib.hid hv
                        clear h0 h1
                        rcases two_or hk with rfl | rfl | rfl
                        · as_aux_lemma =>
                            obtain ⟨gv, ov, rfl, cv⟩ := float_at hv (show [d0, d1][0]? = some d0 from rfl)
                            clear hv cv
                            go_upto_region 32 with (fail)
                            refine wp_region_held_drew (S := (fun X => Below wr.heap.size wr X)) (by kernel_rfl) ((Below.refl _ _).drew) (fun hHeld => ?_)
                            refine take_op (i := 0) (d := 289) (v := .agg (blindC n wd gp tt sh)) rfl rfl (by kernel_rfl) (by kernel_rfl) (by kernel_rfl) (fun _ _ _ h => h) (yields_row (by rfl) 28 (.tmp 5) (by rfl) b0 0 5 (by rfl) 28 (blindC n wd gp tt sh) (0, 0) _ (fun _ h => below_row h H0.out) Tryz.underlying28 rfl info_blind (blind_fits _ _ _ _ _) (blindC n wd gp tt sh) (blind_all _ _ _ _ _)) hHeld ?_
                            simp only [List.setIfInBounds_toArray, List.set_cons_zero, List.set_cons_succ]
                            refine take_op (i := 1) (d := 290) (v := ?_) rfl rfl (by kernel_rfl) (by kernel_rfl) (by kernel_rfl) (fun _ _ _ h => h) (Or.inl ⟨by rfl, ?hy1u1⟩) hHeld ?rest1u1
                            case hy1u1 =>
                              intro w' hS'
                              go_simp
                              try with_reducible rfl
                            simp only [List.setIfInBounds_toArray, List.set_cons_zero, List.set_cons_succ]
                            refine take_op (i := 2) (d := 291) (v := ?_) rfl rfl (by kernel_rfl) (by kernel_rfl) (by kernel_rfl) (fun _ _ _ h => h) (Or.inl ⟨by rfl, ?hy2u2⟩) hHeld ?rest2u2
                            case hy2u2 =>
                              intro w' hS'
                              go_simp
                              try with_reducible rfl
                            simp only [List.setIfInBounds_toArray, List.set_cons_zero, List.set_cons_succ]
                            refine take_op (i := 3) (d := 292) (v := ?_) rfl rfl (by kernel_rfl) (by kernel_rfl) (by kernel_rfl) (fun _ _ _ h => h) (Or.inl ⟨by rfl, ?hy3u3⟩) hHeld ?rest3u3
                            case hy3u3 =>
                              intro w' hS'
                              go_simp
                              try with_reducible rfl
                            simp only [List.setIfInBounds_toArray, List.set_cons_zero, List.set_cons_succ]
                            refine take_op (i := 4) (d := 293) (v := .agg (sunC hs0 ts0)) rfl rfl (by kernel_rfl) (by kernel_rfl) (by kernel_rfl) (fun _ _ _ h => h) (yields_row (by rfl) 46 (.tmp 292) (by rfl) b4 0 48 (by rfl) 46 (sunC hs0 ts0 ++ sunC hs1 ts1) (0, 0) _ (fun _ h => below_row h H1.out) Tryz.underlying46 rfl info_sun (by rw [HSZ.out]; decide) (sunC hs0 ts0) HEX.out.1) hHeld ?_
                            simp only [List.setIfInBounds_toArray, List.set_cons_zero, List.set_cons_succ]
                            refine take_op (i := 5) (d := 294) (v := ?_) rfl rfl (by kernel_rfl) (by kernel_rfl) (by kernel_rfl) (fun _ _ _ h => h) (Or.inl ⟨by rfl, ?hy5u4⟩) hHeld ?rest5u4
                            case hy5u4 =>
                              intro w' hS'
                              go_simp
                              try with_reducible rfl
                            simp only [List.setIfInBounds_toArray, List.set_cons_zero, List.set_cons_succ]
                            refine wpAnyH_ready (rs := [6]) (by kernel_rfl) (by simp) ?_
                            refine AllReadyH.cons rfl (fun K hK => ?_) AllReadyH.nil
                            go_simp
                            refine (HP0.out _).mono ?_
                            rintro e W1 ⟨rfl, hb1⟩
                            refine hK.out _ _ (hHeld.trans (hb1.mono hHeld.size)) (fun hHeld2 => ?_)
                            clear hK K
                            replace hHeld := hHeld2
                            clear hHeld2 hb1
                            refine take_op (i := 7) (d := 288) (v := ?_) rfl rfl (by kernel_rfl) (by kernel_rfl) (by kernel_rfl) (fun _ _ _ h => h) (Or.inl ⟨by rfl, ?hy7u5⟩) hHeld ?rest7u5
                            case hy7u5 =>
                              intro w' hS'
                              go_simp
                              try with_reducible rfl
                            simp only [List.setIfInBounds_toArray, List.set_cons_zero, List.set_cons_succ]
                            refine take_op (i := 8) (d := 296) (v := ?_) rfl rfl (by kernel_rfl) (by kernel_rfl) (by kernel_rfl) (fun _ _ _ h => h) (Or.inl ⟨by rfl, ?hy8u6⟩) hHeld ?rest8u6
                            case hy8u6 =>
                              intro w' hS'
                              go_simp
                              try with_reducible rfl
                            simp only [List.setIfInBounds_toArray, List.set_cons_zero, List.set_cons_succ]
                            refine take_op (i := 9) (d := 297) (v := ?_) rfl rfl (by kernel_rfl) (by kernel_rfl) (by kernel_rfl) (fun _ _ _ h => h) (Or.inl ⟨by rfl, ?hy9u7⟩) hHeld ?rest9u7
                            case hy9u7 =>
                              intro w' hS'
                              go_simp
                              try with_reducible rfl
                            simp only [List.setIfInBounds_toArray, List.set_cons_zero, List.set_cons_succ]
                            refine take_op (i := 10) (d := 39) (v := ?_) rfl rfl (by kernel_rfl) (by kernel_rfl) (by kernel_rfl) (fun _ _ _ h => h) (Or.inl ⟨by rfl, ?hy10u8⟩) hHeld ?rest10u8
                            case hy10u8 =>
                              intro w' hS'
                              go_simp
                              try with_reducible rfl
                            simp only [List.setIfInBounds_toArray, List.set_cons_zero, List.set_cons_succ]
                            refine take_op (i := 11) (d := 40) (v := ?_) rfl rfl (by kernel_rfl) (by kernel_rfl) (by kernel_rfl) (fun _ _ _ h => h) (Or.inl ⟨by rfl, ?hy11u9⟩) hHeld ?rest11u9
                            case hy11u9 =>
                              intro w' hS'
                              go_simp
                              try with_reducible rfl
                            simp only [List.setIfInBounds_toArray, List.set_cons_zero, List.set_cons_succ]
                            refine wpAnyH_done (by kernel_rfl) ?_ _
                            replace H0 := Lib.hid (below_row hHeld H0.out)
                            replace H1 := Lib.hid (below_row hHeld H1.out)
                            have hv := floats_below HV.out hHeld
                            replace hb := hb.trans (hHeld.mono hb.size)
                            clear hHeld
                            replace HV := Lib.hid hv
                            obtain ⟨gv', ov', eg, cv⟩ := float_at hv (show [d0, d1][0]? = some d0 from rfl)
                            obtain ⟨rfl, rfl⟩ : gv = gv' ∧ ov = ov' := by injection eg with eg; injection eg with e1 e2; exact ⟨e1, e2⟩
                            clear hv eg
                            try rw [Nat.add_zero] at cv
                            obtain ⟨o1, hor⟩ := HM0.out
                            rcases hor with ⟨o2, rfl⟩ | ⟨o2, e5⟩
                            · go_wp2
                              go_roundw
                              case rel => go_light; exact ⟨1, by decide, rfl, H0.out, H1.out, HV.out, hb⟩
                              case measure => go_light; simp [intOf]
                            · go_wp2
                              go_roundw
                              case rel => go_light; exact ⟨1, by decide, rfl, H0.out, H1.out, HV.out, hb⟩
                              case measure => go_light; simp [intOf]
                        · as_aux_lemma =>
                            obtain ⟨gv, ov, rfl, cv⟩ := float_at hv (show [d0, d1][1]? = some d1 from rfl)
                            clear hv cv
                            go_upto_region 32 with (fail)
                            refine wp_region_held_drew (S := (fun X => Below wr.heap.size wr X)) (by kernel_rfl) ((Below.refl _ _).drew) (fun hHeld => ?_)
                            refine take_op (i := 0) (d := 289) (v := .agg (blindC n wd gp tt sh)) rfl rfl (by kernel_rfl) (by kernel_rfl) (by kernel_rfl) (fun _ _ _ h => h) (yields_row (by rfl) 28 (.tmp 5) (by rfl) b0 0 5 (by rfl) 28 (blindC n wd gp tt sh) (0, 0) _ (fun _ h => below_row h H0.out) Tryz.underlying28 rfl info_blind (blind_fits _ _ _ _ _) (blindC n wd gp tt sh) (blind_all _ _ _ _ _)) hHeld ?_
                            simp only [List.setIfInBounds_toArray, List.set_cons_zero, List.set_cons_succ]
                            refine take_op (i := 1) (d := 290) (v := ?_) rfl rfl (by kernel_rfl) (by kernel_rfl) (by kernel_rfl) (fun _ _ _ h => h) (Or.inl ⟨by rfl, ?hy1u10⟩) hHeld ?rest1u10
                            case hy1u10 =>
                              intro w' hS'
                              go_simp
                              try with_reducible rfl
                            simp only [List.setIfInBounds_toArray, List.set_cons_zero, List.set_cons_succ]
                            refine take_op (i := 2) (d := 291) (v := ?_) rfl rfl (by kernel_rfl) (by kernel_rfl) (by kernel_rfl) (fun _ _ _ h => h) (Or.inl ⟨by rfl, ?hy2u11⟩) hHeld ?rest2u11
                            case hy2u11 =>
                              intro w' hS'
                              go_simp
                              try with_reducible rfl
                            simp only [List.setIfInBounds_toArray, List.set_cons_zero, List.set_cons_succ]
                            refine take_op (i := 3) (d := 292) (v := ?_) rfl rfl (by kernel_rfl) (by kernel_rfl) (by kernel_rfl) (fun _ _ _ h => h) (Or.inl ⟨by rfl, ?hy3u12⟩) hHeld ?rest3u12
                            case hy3u12 =>
                              intro w' hS'
                              go_simp
                              try with_reducible rfl
                            simp only [List.setIfInBounds_toArray, List.set_cons_zero, List.set_cons_succ]
                            refine take_op (i := 4) (d := 293) (v := .agg (sunC hs1 ts1)) rfl rfl (by kernel_rfl) (by kernel_rfl) (by kernel_rfl) (fun _ _ _ h => h) (yields_row (by rfl) 46 (.tmp 292) (by rfl) b4 48 48 (by rfl) 46 (sunC hs0 ts0 ++ sunC hs1 ts1) (0, 0) _ (fun _ h => below_row h H1.out) Tryz.underlying46 rfl info_sun (by rw [HSZ.out]; decide) (sunC hs1 ts1) HEX.out.2) hHeld ?_
                            simp only [List.setIfInBounds_toArray, List.set_cons_zero, List.set_cons_succ]
                            refine take_op (i := 5) (d := 294) (v := ?_) rfl rfl (by kernel_rfl) (by kernel_rfl) (by kernel_rfl) (fun _ _ _ h => h) (Or.inl ⟨by rfl, ?hy5u13⟩) hHeld ?rest5u13
                            case hy5u13 =>
                              intro w' hS'
                              go_simp
                              try with_reducible rfl
                            simp only [List.setIfInBounds_toArray, List.set_cons_zero, List.set_cons_succ]
                            refine wpAnyH_ready (rs := [6]) (by kernel_rfl) (by simp) ?_
                            refine AllReadyH.cons rfl (fun K hK => ?_) AllReadyH.nil
                            go_simp
                            refine (HP1.out _).mono ?_
                            rintro e W1 ⟨rfl, hb1⟩
                            refine hK.out _ _ (hHeld.trans (hb1.mono hHeld.size)) (fun hHeld2 => ?_)
                            clear hK K
                            replace hHeld := hHeld2
                            clear hHeld2 hb1
                            refine take_op (i := 7) (d := 288) (v := ?_) rfl rfl (by kernel_rfl) (by kernel_rfl) (by kernel_rfl) (fun _ _ _ h => h) (Or.inl ⟨by rfl, ?hy7u14⟩) hHeld ?rest7u14
                            case hy7u14 =>
                              intro w' hS'
                              go_simp
                              try with_reducible rfl
                            simp only [List.setIfInBounds_toArray, List.set_cons_zero, List.set_cons_succ]
                            refine take_op (i := 8) (d := 296) (v := ?_) rfl rfl (by kernel_rfl) (by kernel_rfl) (by kernel_rfl) (fun _ _ _ h => h) (Or.inl ⟨by rfl, ?hy8u15⟩) hHeld ?rest8u15
                            case hy8u15 =>
                              intro w' hS'
                              go_simp
                              try with_reducible rfl
                            simp only [List.setIfInBounds_toArray, List.set_cons_zero, List.set_cons_succ]
                            refine take_op (i := 9) (d := 297) (v := ?_) rfl rfl (by kernel_rfl) (by kernel_rfl) (by kernel_rfl) (fun _ _ _ h => h) (Or.inl ⟨by rfl, ?hy9u16⟩) hHeld ?rest9u16
                            case hy9u16 =>
                              intro w' hS'
                              go_simp
                              try with_reducible rfl
                            simp only [List.setIfInBounds_toArray, List.set_cons_zero, List.set_cons_succ]
                            refine take_op (i := 10) (d := 39) (v := ?_) rfl rfl (by kernel_rfl) (by kernel_rfl) (by kernel_rfl) (fun _ _ _ h => h) (Or.inl ⟨by rfl, ?hy10u17⟩) hHeld ?rest10u17
                            case hy10u17 =>
                              intro w' hS'
                              go_simp
                              try with_reducible rfl
                            simp only [List.setIfInBounds_toArray, List.set_cons_zero, List.set_cons_succ]
                            refine take_op (i := 11) (d := 40) (v := ?_) rfl rfl (by kernel_rfl) (by kernel_rfl) (by kernel_rfl) (fun _ _ _ h => h) (Or.inl ⟨by rfl, ?hy11u18⟩) hHeld ?rest11u18
                            case hy11u18 =>
                              intro w' hS'
                              go_simp
                              try with_reducible rfl
                            simp only [List.setIfInBounds_toArray, List.set_cons_zero, List.set_cons_succ]
                            refine wpAnyH_done (by kernel_rfl) ?_ _
                            replace H0 := Lib.hid (below_row hHeld H0.out)
                            replace H1 := Lib.hid (below_row hHeld H1.out)
                            have hv := floats_below HV.out hHeld
                            replace hb := hb.trans (hHeld.mono hb.size)
                            clear hHeld
                            replace HV := Lib.hid hv
                            obtain ⟨gv', ov', eg, cv⟩ := float_at hv (show [d0, d1][1]? = some d1 from rfl)
                            obtain ⟨rfl, rfl⟩ : gv = gv' ∧ ov = ov' := by injection eg with eg; injection eg with e1 e2; exact ⟨e1, e2⟩
                            clear hv eg
                            try rw [Nat.add_zero] at cv
                            obtain ⟨o1, hor⟩ := HM1.out
                            rcases hor with ⟨o2, e3⟩ | ⟨o2, e5⟩
                            · cases e5 : ((1 : Int) == (mi : Int)) with
                              | true =>
                                go_wp2
                                go_roundw
                                case rel => go_light; exact ⟨2, by decide, rfl, H0.out, H1.out, HV.out, hb⟩
                                case measure => go_light; simp [intOf]
                              | false =>
                                go_wp2
                                go_roundw
                                case rel => go_light; exact ⟨2, by decide, rfl, H0.out, H1.out, HV.out, hb⟩
                                case measure => go_light; simp [intOf]
                            · go_wp2
                              go_roundw
                              case rel => go_light; exact ⟨2, by decide, rfl, H0.out, H1.out, HV.out, hb⟩
                              case measure => go_light; simp [intOf]
                        · as_aux_lemma =>
                            clear hv HV
                            go_upto_region 36 with (fail)
                            go_loopw [41] (fun i wr => ∃ j : Nat, j ≤ 7 ∧ i = .int .i64 ((j * 40 : Nat) : Int) ∧ wr.heap[b0]? = some (.cells (blindC n wd gp tt sh) 28 (0, 0)) ∧ wr.heap[b4]? = some (.cells (sunC hs0 ts0 ++ sunC hs1 ts1) 46 (0, 0)) ∧ Below w.heap.size w wr) (fun i _ => 281 - (intOf i).toNat)
                            case atStart => exact ⟨0, Nat.zero_le _, rfl, H0.out, H1.out, hb⟩
                            case round =>
                              clear H0 H1 hb
                              obtain ⟨j, hj, rfl, h0, h1, hb⟩ := hrel
                              have H0 := Lib.hid h0
                              have H1 := Lib.hid h1
                              clear h0 h1
                              by_cases hlt : j < 7
                              · as_aux_lemma =>
                                  obtain ⟨f, x, y, z, s, hf, z1, z2, z3, hj1, q1, q2, hor, P0, P1⟩ := HJ.out j hlt
                                  have HQ0 := Lib.hid P0
                                  have HQ1 := Lib.hid P1
                                  have ra := fun T w => run_float_arith (P := Tryz.prog) w .add T .f32 _ _ _ q1
                                  have rb := fun T w => run_float_arith (P := Tryz.prog) w .add T .f32 _ _ _ q2
                                  have HFJ := Lib.hid hf
                                  have HZ3 := Lib.hid z3
                                  rw [← hf]
                                  clear P0 P1 q1 q2 hf hlt hj z3
                                  go_upto_region 38 with (fail)
                                  refine wp_region_held_drew (S := (fun X => Below wr.heap.size wr X)) (by kernel_rfl) ((Below.refl _ _).drew) (fun hHeld => ?_)
                                  refine take_op (i := 0) (d := 339) (v := .agg (blindC n wd gp tt sh)) rfl rfl (by kernel_rfl) (by kernel_rfl) (by kernel_rfl) (fun _ _ _ h => h) (yields_row (by rfl) 28 (.tmp 5) (by rfl) b0 0 5 (by rfl) 28 (blindC n wd gp tt sh) (0, 0) _ (fun _ h => below_row h H0.out) Tryz.underlying28 rfl info_blind (blind_fits _ _ _ _ _) (blindC n wd gp tt sh) (blind_all _ _ _ _ _)) hHeld ?_
                                  simp only [List.setIfInBounds_toArray, List.set_cons_zero, List.set_cons_succ]
                                  refine take_op (i := 1) (d := 340) (v := ?_) rfl rfl (by kernel_rfl) (by kernel_rfl) (by kernel_rfl) (fun _ _ _ h => h) (Or.inl ⟨by rfl, ?hy1u19⟩) hHeld ?rest1u19
                                  case hy1u19 =>
                                    intro w' hS'
                                    go_simp
                                    try with_reducible rfl
                                  simp only [List.setIfInBounds_toArray, List.set_cons_zero, List.set_cons_succ]
                                  refine take_op (i := 2) (d := 341) (v := ?_) rfl rfl (by kernel_rfl) (by kernel_rfl) (by kernel_rfl) (fun _ _ _ h => h) (Or.inl ⟨by rfl, ?hy2u20⟩) hHeld ?rest2u20
                                  case hy2u20 =>
                                    intro w' hS'
                                    go_simp
                                    try with_reducible rfl
                                  simp only [List.setIfInBounds_toArray, List.set_cons_zero, List.set_cons_succ]
                                  refine take_op (i := 3) (d := 342) (v := .agg (sunC hs0 ts0)) rfl rfl (by kernel_rfl) (by kernel_rfl) (by kernel_rfl) (fun _ _ _ h => h) (yields_row (by rfl) 46 (.tmp 341) (by rfl) b4 0 48 (by rfl) 46 (sunC hs0 ts0 ++ sunC hs1 ts1) (0, 0) _ (fun _ h => below_row h H1.out) Tryz.underlying46 rfl info_sun (by rw [HSZ.out]; decide) (sunC hs0 ts0) HEX.out.1) hHeld ?_
                                  simp only [List.setIfInBounds_toArray, List.set_cons_zero, List.set_cons_succ]
                                  refine take_op (i := 4) (d := 343) (v := ?_) rfl rfl (by kernel_rfl) (by kernel_rfl) (by kernel_rfl) (fun _ _ _ h => h) (Or.inl ⟨by rfl, ?hy4u21⟩) hHeld ?rest4u21
                                  case hy4u21 =>
                                    intro w' hS'
                                    go_simp
                                    try with_reducible rfl
                                  simp only [List.setIfInBounds_toArray, List.set_cons_zero, List.set_cons_succ]
                                  refine wpAnyH_ready (rs := [5]) (by kernel_rfl) (by simp) ?_
                                  refine AllReadyH.cons rfl (fun K hK => ?_) AllReadyH.nil
                                  go_simp
                                  refine (HQ0.out _).mono ?_
                                  rintro e W1 ⟨rfl, hb1⟩
                                  refine hK.out _ _ (hHeld.trans (hb1.mono hHeld.size)) (fun hHeld2 => ?_)
                                  clear hK K
                                  replace hHeld := hHeld2
                                  clear hHeld2 hb1
                                  refine take_op (i := 6) (d := 338) (v := ?_) rfl rfl (by kernel_rfl) (by kernel_rfl) (by kernel_rfl) (fun _ _ _ h => h) (Or.inl ⟨by rfl, ?hy6u22⟩) hHeld ?rest6u22
                                  case hy6u22 =>
                                    intro w' hS'
                                    go_simp
                                    try with_reducible rfl
                                  simp only [List.setIfInBounds_toArray, List.set_cons_zero, List.set_cons_succ]
                                  refine take_op (i := 7) (d := 345) (v := ?_) rfl rfl (by kernel_rfl) (by kernel_rfl) (by kernel_rfl) (fun _ _ _ h => h) (Or.inl ⟨by rfl, ?hy7u23⟩) hHeld ?rest7u23
                                  case hy7u23 =>
                                    intro w' hS'
                                    go_simp
                                    try with_reducible rfl
                                  simp only [List.setIfInBounds_toArray, List.set_cons_zero, List.set_cons_succ]
                                  refine take_op (i := 8) (d := 346) (v := ?_) rfl rfl (by kernel_rfl) (by kernel_rfl) (by kernel_rfl) (fun _ _ _ h => h) (Or.inl ⟨by rfl, ?hy8u24⟩) hHeld ?rest8u24
                                  case hy8u24 =>
                                    intro w' hS'
                                    go_simp
                                    try with_reducible rfl
                                  simp only [List.setIfInBounds_toArray, List.set_cons_zero, List.set_cons_succ]
                                  refine take_op (i := 9) (d := 42) (v := ?_) rfl rfl (by kernel_rfl) (by kernel_rfl) (by kernel_rfl) (fun _ _ _ h => h) (Or.inl ⟨by rfl, ?hy9u25⟩) hHeld ?rest9u25
                                  case hy9u25 =>
                                    intro w' hS'
                                    go_simp
                                    try with_reducible rfl
                                  simp only [List.setIfInBounds_toArray, List.set_cons_zero, List.set_cons_succ]
                                  refine take_op (i := 10) (d := 43) (v := ?_) rfl rfl (by kernel_rfl) (by kernel_rfl) (by kernel_rfl) (fun _ _ _ h => h) (Or.inl ⟨by rfl, ?hy10u26⟩) hHeld ?rest10u26
                                  case hy10u26 =>
                                    intro w' hS'
                                    go_simp
                                    try with_reducible rfl
                                  simp only [List.setIfInBounds_toArray, List.set_cons_zero, List.set_cons_succ]
                                  refine wpAnyH_done (by kernel_rfl) ?_ _
                                  replace H0 := Lib.hid (below_row hHeld H0.out)
                                  replace H1 := Lib.hid (below_row hHeld H1.out)
                                  replace hb := hb.trans (hHeld.mono hb.size)
                                  clear hHeld HQ0
                                  go_upto_region 39 with (fail)
                                  as_aux_lemma =>
                                    refine wp_region_held_drew (S := (fun X => Below W1.heap.size W1 X)) (by kernel_rfl) ((Below.refl _ _).drew) (fun hHeld => ?_)
                                    refine take_op (i := 0) (d := 348) (v := .agg (blindC n wd gp tt sh)) rfl rfl (by kernel_rfl) (by kernel_rfl) (by kernel_rfl) (fun _ _ _ h => h) (yields_row (by rfl) 28 (.tmp 5) (by rfl) b0 0 5 (by rfl) 28 (blindC n wd gp tt sh) (0, 0) _ (fun _ h => below_row h H0.out) Tryz.underlying28 rfl info_blind (blind_fits _ _ _ _ _) (blindC n wd gp tt sh) (blind_all _ _ _ _ _)) hHeld ?_
                                    simp only [List.setIfInBounds_toArray, List.set_cons_zero, List.set_cons_succ]
                                    refine take_op (i := 1) (d := 349) (v := ?_) rfl rfl (by kernel_rfl) (by kernel_rfl) (by kernel_rfl) (fun _ _ _ h => h) (Or.inl ⟨by rfl, ?hy1u27⟩) hHeld ?rest1u27
                                    case hy1u27 =>
                                      intro w' hS'
                                      go_simp
                                      try with_reducible rfl
                                    simp only [List.setIfInBounds_toArray, List.set_cons_zero, List.set_cons_succ]
                                    refine take_op (i := 2) (d := 350) (v := ?_) rfl rfl (by kernel_rfl) (by kernel_rfl) (by kernel_rfl) (fun _ _ _ h => h) (Or.inl ⟨by rfl, ?hy2u28⟩) hHeld ?rest2u28
                                    case hy2u28 =>
                                      intro w' hS'
                                      go_simp
                                      try with_reducible rfl
                                    simp only [List.setIfInBounds_toArray, List.set_cons_zero, List.set_cons_succ]
                                    refine take_op (i := 3) (d := 351) (v := .agg (sunC hs1 ts1)) rfl rfl (by kernel_rfl) (by kernel_rfl) (by kernel_rfl) (fun _ _ _ h => h) (yields_row (by rfl) 46 (.tmp 350) (by rfl) b4 48 48 (by rfl) 46 (sunC hs0 ts0 ++ sunC hs1 ts1) (0, 0) _ (fun _ h => below_row h H1.out) Tryz.underlying46 rfl info_sun (by rw [HSZ.out]; decide) (sunC hs1 ts1) HEX.out.2) hHeld ?_
                                    simp only [List.setIfInBounds_toArray, List.set_cons_zero, List.set_cons_succ]
                                    refine take_op (i := 4) (d := 352) (v := ?_) rfl rfl (by kernel_rfl) (by kernel_rfl) (by kernel_rfl) (fun _ _ _ h => h) (Or.inl ⟨by rfl, ?hy4u29⟩) hHeld ?rest4u29
                                    case hy4u29 =>
                                      intro w' hS'
                                      go_simp
                                      try with_reducible rfl
                                    simp only [List.setIfInBounds_toArray, List.set_cons_zero, List.set_cons_succ]
                                    refine wpAnyH_ready (rs := [5]) (by kernel_rfl) (by simp) ?_
                                    refine AllReadyH.cons rfl (fun K hK => ?_) AllReadyH.nil
                                    go_simp
                                    refine (HQ1.out _).mono ?_
                                    rintro e W1 ⟨rfl, hb1⟩
                                    refine hK.out _ _ (hHeld.trans (hb1.mono hHeld.size)) (fun hHeld2 => ?_)
                                    clear hK K
                                    replace hHeld := hHeld2
                                    clear hHeld2 hb1
                                    refine take_op (i := 6) (d := 347) (v := ?_) rfl rfl (by kernel_rfl) (by kernel_rfl) (by kernel_rfl) (fun _ _ _ h => h) (Or.inl ⟨by rfl, ?hy6u30⟩) hHeld ?rest6u30
                                    case hy6u30 =>
                                      intro w' hS'
                                      go_simp
                                      try with_reducible rfl
                                    simp only [List.setIfInBounds_toArray, List.set_cons_zero, List.set_cons_succ]
                                    refine take_op (i := 7) (d := 354) (v := ?_) rfl rfl (by kernel_rfl) (by kernel_rfl) (by kernel_rfl) (fun _ _ _ h => h) (Or.inl ⟨by rfl, ?hy7u31⟩) hHeld ?rest7u31
                                    case hy7u31 =>
                                      intro w' hS'
                                      go_simp
                                      try with_reducible rfl
                                    simp only [List.setIfInBounds_toArray, List.set_cons_zero, List.set_cons_succ]
                                    refine take_op (i := 8) (d := 355) (v := ?_) rfl rfl (by kernel_rfl) (by kernel_rfl) (by kernel_rfl) (fun _ _ _ h => h) (Or.inl ⟨by rfl, ?hy8u32⟩) hHeld ?rest8u32
                                    case hy8u32 =>
                                      intro w' hS'
                                      go_simp
                                      try with_reducible rfl
                                    simp only [List.setIfInBounds_toArray, List.set_cons_zero, List.set_cons_succ]
                                    refine take_op (i := 9) (d := 44) (v := ?_) rfl rfl (by kernel_rfl) (by kernel_rfl) (by kernel_rfl) (fun _ _ _ h => h) (Or.inl ⟨by rfl, ?hy9u33⟩) hHeld ?rest9u33
                                    case hy9u33 =>
                                      intro w' hS'
                                      go_simp
                                      try with_reducible rfl
                                    simp only [List.setIfInBounds_toArray, List.set_cons_zero, List.set_cons_succ]
                                    refine take_op (i := 10) (d := 45) (v := ?_) rfl rfl (by kernel_rfl) (by kernel_rfl) (by kernel_rfl) (fun _ _ _ h => h) (Or.inl ⟨by rfl, ?hy10u34⟩) hHeld ?rest10u34
                                    case hy10u34 =>
                                      intro w' hS'
                                      go_simp
                                      try with_reducible rfl
                                    simp only [List.setIfInBounds_toArray, List.set_cons_zero, List.set_cons_succ]
                                    refine wpAnyH_done (by kernel_rfl) ?_ _
                                    replace H0 := Lib.hid (below_row hHeld H0.out)
                                    replace H1 := Lib.hid (below_row hHeld H1.out)
                                    replace hb := hb.trans (hHeld.mono hb.size)
                                    clear hHeld HQ1
                                    go_upto_region 42 with (fail)
                                    clear ra rb
                                    as_aux_lemma =>
                                      rcases hor with ⟨o2, e3⟩ | ⟨o2, e5⟩
                                      · cases e5 : ((f : Int) == (bf : Int) * 40) with
                                        | true =>
                                          as_aux_lemma =>
                                            go_wp2
                                            go_roundw
                                            case rel =>
                                              go_light
                                              (repeat apply Exists.intro)
                                              exact ⟨⟨j + 1, hj1, congrArg (Value.int .i64) HZ3.out.symm, H0.out, H1.out, hb⟩, rfl⟩
                                            case measure => go_light; exact ms_f z1
                                        | false =>
                                          as_aux_lemma =>
                                            go_wp2
                                            go_roundw
                                            case rel =>
                                              go_light
                                              (repeat apply Exists.intro)
                                              exact ⟨⟨j + 1, hj1, congrArg (Value.int .i64) HZ3.out.symm, H0.out, H1.out, hb⟩, rfl⟩
                                            case measure => go_light; exact ms_f z1
                                      · as_aux_lemma =>
                                          go_wp2
                                          go_roundw
                                          case rel =>
                                            go_light
                                            (repeat apply Exists.intro)
                                            exact ⟨⟨j + 1, hj1, congrArg (Value.int .i64) HZ3.out.symm, H0.out, H1.out, hb⟩, rfl⟩
                                          case measure => go_light; exact ms_f z1
                              · obtain rfl : j = 7 := Nat.le_antisymm hj (Nat.le_of_not_lt hlt)
                                go_wp2
                                go_ret
                                exact ⟨rfl, hb⟩

end Go.Proofs.YtmbgmpeiicjlaaaGreatDoor
