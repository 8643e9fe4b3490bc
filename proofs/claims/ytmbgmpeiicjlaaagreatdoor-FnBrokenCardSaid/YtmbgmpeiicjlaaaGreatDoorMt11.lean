/-
  BkA, TpA, BkB.
-/
import Derived.Test.YtmbgmpeiicjlaaaGreatDoorMt5
import Derived.Test.YtmbgmpeiicjlaaaGreatDoorMt9
import Derived.Test.YtmbgmpeiicjlaaaGreatDoorMt10
import Derived.Test.YtmbgmpeiicjlaaaGreatDoorMt7
import Derived.Test.YtmbgmpeiicjlaaaGreatDoorMt6
import Derived.Test.YtmbgmpeiicjlaaaGreatDoorMt1
import Derived.Test.YtmbgmpeiicjlaaaGreatDoorMt3
import Derived.Great.Walk

namespace Go.Proofs.YtmbgmpeiicjlaaaGreatDoor

open Go.RowKit

theorem ulp_half {r : Nat} (h : r < 1065353216) : ulp r ≤ 2 * 2 ^ 124 := by
  have e : (2 : Nat) * 2 ^ 124 = 2 ^ 125 := by decide +kernel
  rw [e]
  unfold ulp
  exact Nat.pow_le_pow_right (by decide) (by omega)

theorem pas_one (wd gp : Nat) (t : Int) {sh : Nat} (hs : sh ≤ 1065353216) (h : Int) : pasB wd gp t sh h ≤ 1065353216 := by
  have hb := blk_le wd gp t h
  have ho := (opn_facts wd gp t h).2
  have hv := (opn_facts wd gp t 1).2
  have hr : Rnd (rv 1065353216 - rv (blkB wd gp t h)) 1 (opnB wd gp t h) := (sub_rnd (by decide) hb).2
  unfold pasB bncB
  generalize opnB wd gp t h = o at *
  generalize blkB wd gp t h = b at *
  generalize opnB wd gp t 1 = v at *
  have m1 := mul_le_one (x := b) (y := sh) (by omega) hs
  have m2 := mul_le_one (x := fmul b sh) (y := v) (by omega) hv
  generalize fmul (fmul b sh) v = x at *
  have hx : x ≤ b := by omega
  have d : fdiv x 1073741824 ≤ x := rnd_le (div_rnd (x := x) (y := 1073741824) (by omega) (by decide) (by decide)).2 (by decide +kernel) (Nat.mul_le_mul_left _ (by decide +kernel))
  generalize fdiv x 1073741824 = q at *
  have rq : rv q ≤ rv b := rv_le (by omega)
  have rb : rv b ≤ rv 1065353216 := rv_le hb
  have e1 : rv 1065353216 = 33554432 * 2 ^ 124 := by decide +kernel
  have e2 : ulp 1065353216 = 4 * 2 ^ 124 := by decide +kernel
  rw [e1] at hr rb
  have ro : rv o ≤ 33554432 * 2 ^ 124 - rv b + 2 ^ 124 := by
    cases o with
    | zero => have : rv 0 = 0 := by decide +kernel
              rw [this]; exact Nat.zero_le _
    | succ r =>
      have a := (hr.2 r (by omega)).1 (Nat.le_refl _)
      have u := ulp_half (r := r) (by omega)
      rw [rv_succ]
      generalize (2 : Nat) ^ 124 = N at *
      omega
  refine Nat.le_of_not_lt fun c => ?_
  have w := (add_rnd (x := o) (y := q) (by omega) (by omega)).2
  have a := (w.2 1065353216 (by decide)).1 c
  rw [e1, e2] at a
  have pN : 0 < (2 : Nat) ^ 124 := Nat.two_pow_pos _
  generalize (2 : Nat) ^ 124 = N at *
  omega

theorem fall_one (hs ts : List Int) (hour facing : Int) (h1 : atH hs hour ≤ 64) : fallOf hs ts hour facing ≤ 1065353216 := by
  unfold fallOf
  by_cases c : 0 < atH hs hour
  · rcases fall_rng (atH hs hour) (atH ts hour - facing) c h1 with h | h
    · rw [h]; decide
    · exact h.2
  · unfold fallB
    rw [if_neg c]
    decide

theorem win_fall (wd gp : Nat) (t : Int) {sh : Nat} (hsh : sh ≤ 1065353216) (hs ts : List Int) (hour facing : Int) (h1 : atH hs hour ≤ 64) : winB wd gp t sh hs ts hour facing ≤ fallOf hs ts hour facing := by
  unfold winB
  split
  · exact mul_le_one (Nat.lt_of_le_of_lt (fall_one hs ts hour facing h1) (by decide)) (pas_one wd gp t hsh _)
  · exact Nat.zero_le _

theorem cap_lt : ∀ k, k < 25 → sumTo (fun _ => 1065353216) k < 2139095040 := by decide +kernel

theorem cap_24 : sumTo (fun _ => 1065353216) 24 ≤ 1103101952 := by decide +kernel

theorem sum_cap (g : Nat → Nat) (hg : ∀ k, k < 24 → g k ≤ 1065353216) : ∀ k, k ≤ 24 → sumTo g k ≤ sumTo (fun _ => 1065353216) k
  | 0, _ => Nat.le_refl _
  | k + 1, h => by
    rw [sumTo_succ, sumTo_succ]
    exact add_mono (cap_lt k (by omega)) (by decide) (sum_cap g hg k (by omega)) (hg k (by omega))

/-- The light of a day. -/
theorem dyL_cap (wd gp : Nat) (t : Int) {sh : Nat} (hsh : sh ≤ 1065353216) (fc : Int) {x : Su} (hw : SuWf x) (ho : okSu x = true) : dyL wd gp t sh fc x ≤ 1103101952 := by
  unfold dyL
  refine Nat.le_trans (sum_cap _ (fun k hk => ?_) 24 (Nat.le_refl _)) cap_24
  have h1 := (okB_h hw.1 hw.2.1 ho (k : Int) (by omega) (by omega)).2
  exact Nat.le_trans (win_fall wd gp t hsh x.1 x.2 (k : Int) fc h1) (fall_one x.1 x.2 (k : Int) fc h1)

theorem two_cap {x y : Nat} (hx : x ≤ 1103101952) (hy : y ≤ 1103101952) : floatBits .add .f32 0 x = some (fadd 0 x) ∧ floatBits .add .f32 (fadd 0 x) y = some (fadd (fadd 0 x) y) ∧ fadd (fadd 0 x) y ≤ 1111490560 := by
  have c1 : fadd 0 1103101952 ≤ 1103101952 := by decide +kernel
  have c2 : fadd 1103101952 1103101952 ≤ 1111490560 := by decide +kernel
  have a1 : fadd 0 x ≤ fadd 0 1103101952 := add_mono (by decide) (by decide) (Nat.le_refl _) hx
  have a2 : fadd (fadd 0 x) y ≤ fadd 1103101952 1103101952 := add_mono (by decide) (by decide) (by omega) hy
  exact ⟨(add_rnd (x := 0) (y := x) (by decide) (by omega)).1, (add_rnd (x := fadd 0 x) (y := y) (by omega) (by omega)).1, by omega⟩

theorem bk_eq {x : Nat} (hx : x < 2139095040) : FloatKind.f32.format.order x x = some .eq := by
  rw [order_pos hx hx]
  simp only [compare, compareOfLessAndEq]
  rw [if_neg (by omega)]
  rfl

theorem bk_lt {x y : Nat} (hy : y < 2139095040) (h : x < y) : FloatKind.f32.format.order x y = some .lt := by
  rw [order_pos (by omega) hy]
  simp only [compare, compareOfLessAndEq]
  rw [if_pos h]

theorem bk_gtY {x y : Nat} (hx : x < 2139095040) (hy : y < 2139095040) : gtY x y = decide (y < x) := by
  unfold gtY
  rw [order_pos hx hy]
  simp only [compare, compareOfLessAndEq]
  by_cases c : x < y
  · rw [if_pos c, decide_eq_false (by omega)]; rfl
  · rw [if_neg c]
    by_cases e : x = y
    · rw [if_pos e, decide_eq_false (by omega)]; rfl
    · rw [if_neg e, decide_eq_true (by omega)]; rfl

theorem bstI_le (zs : List Nat) : ∀ k, bstI zs k ≤ k
  | 0 => Nat.le_refl _
  | k + 1 => by
    have := bstI_le zs k
    rw [bstI]
    split <;> omega

/-- The first of the greatest. -/
theorem bst_max {zs : List Nat} (hz : ∀ j, zs.getD j 0 < 2139095040) : ∀ k, ∀ j, j < k → zs.getD j 0 ≤ zs.getD (bstI zs k) 0 ∧ (zs.getD j 0 = zs.getD (bstI zs k) 0 → bstI zs k ≤ j)
  | 0, _, h => by omega
  | k + 1, j, h => by
    have ih := bst_max hz k
    have hb := bstI_le zs k
    rw [bstI, bk_gtY (hz k) (hz _)]
    by_cases c : zs.getD (bstI zs k) 0 < zs.getD k 0
    · rw [if_pos (decide_eq_true c)]
      by_cases e : j = k
      · subst e
        exact ⟨Nat.le_refl _, fun _ => Nat.le_refl _⟩
      · have := ih j (by omega)
        exact ⟨by omega, fun e2 => by omega⟩
    · rw [if_neg (by rw [decide_eq_false c]; decide)]
      by_cases e : j = k
      · subst e
        exact ⟨by omega, fun _ => hb⟩
      · exact ih j (by omega)

theorem sumL_two (a b : Nat) : sumL [a, b] 2 = fadd (fadd 0 a) b := by
  unfold sumL
  rw [sumTo_succ, sumTo_succ]
  rfl

theorem year_two (wd gp : Nat) (t : Int) (sh : Nat) (x y : Su) {j : Nat} (hj : j < 7) : (gYr wd gp t sh [x, y] 40).getD j 0 = fadd (fadd 0 (dyL wd gp t sh ((j * 40 : Nat) : Int) x)) (dyL wd gp t sh ((j * 40 : Nat) : Int) y) := by
  rw [List.getD, gYr_get _ _ _ _ _ _ (by omega)]
  rw [Option.getD_some, yrS]
  exact sumL_two _ _

theorem year_cap (wd gp : Nat) (t : Int) {sh : Nat} (hsh : sh ≤ 1065353216) {x y : Su} (hx : SuWf x) (ox : okSu x = true) (hy : SuWf y) (oy : okSu y = true) (j : Nat) : (gYr wd gp t sh [x, y] 40).getD j 0 < 2139095040 := by
  by_cases h : j < 7
  · rw [year_two _ _ _ _ _ _ h]
    have := (two_cap (dyL_cap wd gp t hsh ((j * 40 : Nat) : Int) hx ox) (dyL_cap wd gp t hsh ((j * 40 : Nat) : Int) hy oy)).2.2
    omega
  · rw [List.getD, List.getElem?_eq_none (by rw [gYr_len]; omega)]
    decide

theorem pair_cap {a b : Nat} (ha : a < 2139095040) (hb : b < 2139095040) (j : Nat) : [a, b].getD j 0 < 2139095040 := by
  match j with
  | 0 => exact ha
  | 1 => exact hb
  | j + 2 => show (0 : Nat) < _; decide

theorem sameB_rfl (a : Nat) : sameB a a = true := beq_self_eq_true _

theorem sameB_sub {a b : Nat} (h : sameB a b = true) (c : Nat) : sameB a c = sameB b c := by
  unfold sameB at h ⊢
  rw [eq_of_beq h]

theorem flr_good (wh hg br m : Nat) : gdA (flK (flP wh hg br m) 24) wh hg m = true :=
  gdA_yes (fun k hk => by
    unfold gdP
    rw [flK_get _ hk]
    unfold flP
    by_cases c : k < m
    · rw [if_pos c, if_pos c]
      cases br.testBit k
      · simp [sameB_rfl]
      · simp [sameB_rfl]
    · rw [if_neg c, if_neg c]
      exact sameB_rfl 0)

theorem flr_sb (wh hg br m : Nat) {k : Nat} (hk : k < 24) : sbP (flK (flP wh hg br m) 24) wh hg m k = (decide (k < m) && (br.testBit k && !sameB hg wh)) := by
  unfold sbP
  rw [flK_get _ hk]
  unfold flP
  by_cases c : k < m
  · rw [if_pos c]
    cases br.testBit k
    · simp [sameB_rfl]
    · simp [sameB_rfl]
  · rw [if_neg c, decide_eq_false c]
    rfl

/-- The bits that are found: those that were told, or none. -/
theorem flr_known (wh hg br m : Nat) (hm : m ≤ 24) (hb : br < 2 ^ m) : (sameB hg wh = true ∧ packP (sbP (flK (flP wh hg br m) 24) wh hg m) 24 = 0) ∨ packP (sbP (flK (flP wh hg br m) 24) wh hg m) 24 = br := by
  cases hs : sameB hg wh with
  | true =>
    refine .inl ⟨rfl, ?_⟩
    apply Nat.eq_of_testBit_eq
    intro j
    rw [packP_bit, Nat.zero_testBit]
    by_cases c : j < 24
    · rw [flr_sb wh hg br m c, hs]; simp
    · rw [decide_eq_false c]; rfl
  | false =>
    refine .inr ?_
    apply Nat.eq_of_testBit_eq
    intro j
    rw [packP_bit]
    by_cases c : j < 24
    · rw [flr_sb wh hg br m c, hs, decide_eq_true c]
      by_cases d : j < m
      · rw [decide_eq_true d]; simp
      · rw [decide_eq_false d, high_bit hb (by omega)]; rfl
    · rw [decide_eq_false c, high_bit hb (by omega)]
      rfl

theorem flK_24 (g : Nat → Nat) : flK g 24 = (List.range 24).map g := by
  unfold flK
  simp

theorem sameL_fl {g h : Nat → Nat} (hgh : ∀ k, sameB (g k) (h k) = true) : sameL (flK g 24) (flK h 24) = true := by
  unfold sameL
  rw [flK_24, flK_24, List.zip_map', List.all_map, List.all_eq_true]
  exact fun k _ => hgh k

/-- The floor of the bits that are found. -/
theorem flr_again (wh hg br m : Nat) (hm : m ≤ 24) (hb : br < 2 ^ m) {kn : Nat} (hk : kn = packP (sbP (flK (flP wh hg br m) 24) wh hg m) 24) :
    (kn = br ∨ kn = 0) ∧ kn < 2 ^ m ∧ sameL (flK (flP wh hg kn m) 24) (flK (flP wh hg br m) 24) = true := by
  have hp : 0 < 2 ^ m := Nat.two_pow_pos _
  rcases flr_known wh hg br m hm hb with ⟨hs, h0⟩ | h0
  · rw [h0] at hk
    subst hk
    refine ⟨.inr rfl, hp, sameL_fl (fun k => ?_)⟩
    unfold flP
    by_cases c : k < m
    · rw [if_pos c, if_pos c, Nat.zero_testBit, if_neg (by decide)]
      split
      · rw [← sameB_sub hs]
        exact sameB_rfl _
      · exact sameB_rfl _
    · rw [if_neg c, if_neg c]
      exact sameB_rfl _
  · rw [h0] at hk
    subst hk
    exact ⟨.inl rfl, hb, sameL_fl (fun k => sameB_rfl _)⟩

end Go.Proofs.YtmbgmpeiicjlaaaGreatDoor

namespace Go.Proofs.YtmbgmpeiicjlaaaGreatDoor

open Go.RowKit

attribute [local go_sem] run_store_float

set_option maxRecDepth 100000 in
set_option maxHeartbeats 4000000 in
theorem l00Max_c (x y : Int) (w : World) : Calls Tryz.prog 67 #[.int .i64 x, .int .i64 y] w fun e w' => (∃ r : Int, e = .returned (.int .i64 r) ∧ x ≤ r ∧ y ≤ r ∧ (r = x ∨ r = y)) ∧ w = w' := by
  by_cases c : x > y
  · have hd : decide (x > y) = true := decide_eq_true c
    go_enter Tryz.func67, Tryz.ntmps67
    go_wp2
    go_ret
    exact ⟨⟨_, rfl, by omega⟩, rfl⟩
  · have hd : decide (x > y) = false := decide_eq_false c
    go_enter Tryz.func67, Tryz.ntmps67
    go_wp2
    go_ret
    exact ⟨⟨_, rfl, by omega⟩, rfl⟩

set_option maxRecDepth 100000 in
set_option maxHeartbeats 4000000 in
theorem l00Min_c (x y : Int) (w : World) : Calls Tryz.prog 60 #[.int .i64 x, .int .i64 y] w fun e w' => (∃ r : Int, e = .returned (.int .i64 r) ∧ r ≤ x ∧ r ≤ y ∧ (r = x ∨ r = y)) ∧ w = w' := by
  by_cases c : x < y
  · have hd : decide (x < y) = true := decide_eq_true c
    go_enter Tryz.func60, Tryz.ntmps60
    go_wp2
    go_ret
    exact ⟨⟨_, rfl, by omega⟩, rfl⟩
  · have hd : decide (x < y) = false := decide_eq_false c
    go_enter Tryz.func60, Tryz.ntmps60
    go_wp2
    go_ret
    exact ⟨⟨_, rfl, by omega⟩, rfl⟩

def zS : List Int := [0, 0, 0, 0, 0, 0, 0, 0, 0, 0, 0, 0, 0, 0, 0, 0, 0, 0, 0, 0, 0, 0, 0, 0]

theorem zS_ok : okB zS zS = true := by decide

theorem sunC_sizeT {hs ts : List Int} (hh : hs.length = 24) (ht : ts.length = 24) : (sunC hs ts).size = 48 := by
  simp [sunC, i16s, hh, ht]

theorem okB_setH {hs ts : List Int} {k : Nat} {x : Int} (h : okB hs ts = true) (h0 : -64 ≤ x) (h1 : x ≤ 64) : okB (hs.set k x) ts = true := by
  unfold okB at h ⊢
  rw [Bool.and_eq_true, List.all_eq_true, List.all_eq_true] at h ⊢
  refine ⟨fun y hy => ?_, h.2⟩
  rcases List.mem_or_eq_of_mem_set hy with hy | rfl
  · exact h.1 y hy
  · unfold inB; simp; omega

theorem okB_setT {hs ts : List Int} {k : Nat} {x : Int} (h : okB hs ts = true) (h0 : 0 ≤ x) (h1 : x ≤ 255) : okB hs (ts.set k x) = true := by
  unfold okB at h ⊢
  rw [Bool.and_eq_true, List.all_eq_true, List.all_eq_true] at h ⊢
  refine ⟨h.1, fun y hy => ?_⟩
  rcases List.mem_or_eq_of_mem_set hy with hy | rfl
  · exact h.2 y hy
  · unfold inB; simp; omega

theorem okB_rb {hs ts : List Int} (h : okB hs ts = true) : ∀ x ∈ hs ++ ts, -32768 ≤ x ∧ x ≤ 32767 := by
  unfold okB at h
  rw [Bool.and_eq_true, List.all_eq_true, List.all_eq_true] at h
  intro x hx
  rcases List.mem_append.1 hx with hx | hx
  · have := h.1 x hx
    unfold inB at this; simp at this; omega
  · have := h.2 x hx
    unfold inB at this; simp at this; omega

theorem sun_oneT (hs ts : List Int) : ∀ v ∈ sunC hs ts, v.oneCell' = true := by
  intro v hv
  simp only [sunC, i16s, List.mem_toArray, List.mem_map] at hv
  obtain ⟨x, _, rfl⟩ := hv
  rfl

theorem set_sunH {W : World} {g : Nat} {a b : List Int} {t : TypeId} (h : W.heap[g]? = some (.cells (sunC a b) t (0, 0))) (k : Nat) (hk : k < a.length) (x : Int) : (W.setCell ⟨g, k, none⟩ (.int .i16 x)).heap[g]? = some (.cells (sunC (a.set k x) b) t (0, 0)) := by
  rw [heap_setCell_same _ _ _ _ _ _ h]
  congr 2
  apply Array.ext'
  simp [sunC, i16s, List.map_set, hk]

theorem set_sunT {W : World} {g : Nat} {a b : List Int} {t : TypeId} (h : W.heap[g]? = some (.cells (sunC a b) t (0, 0))) (ha : a.length = 24) (k : Nat) (x : Int) : (W.setCell ⟨g, 24 + k, none⟩ (.int .i16 x)).heap[g]? = some (.cells (sunC a (b.set k x)) t (0, 0)) := by
  rw [heap_setCell_same _ _ _ _ _ _ h]
  congr 2
  apply Array.ext'
  have : ¬ (24 + k < a.length) := by omega
  simp [sunC, i16s, List.map_set, ha]

set_option maxRecDepth 100000 in
set_option maxHeartbeats 8000000 in
theorem l01Drawn_any (b n m : Nat) (v : Value) (hm : m ≤ 1000) (V : World) (h : SrcAt V b v n m) :
    Calls Tryz.prog 45 #[.pointer (some ⟨b, 0, none⟩)] V fun e V' => (∃ hs ts : List Int, e = .returned (.agg (sunC hs ts)) ∧ hs.length = 24 ∧ ts.length = 24 ∧ okB hs ts = true) ∧ SrcAt V' b v n (m + 200) ∧ V.grownBy V' (some b) := by
  have HP1 := Lib.hid (fun V h => pick_any b n m v (by omega) 56 (by decide) (by decide) V h)
  have HP2 := Lib.hid (fun V h => pick_any b n (m + 2) v (by omega) 256 (by decide) (by decide) V h)
  have HP3 := Lib.hid (fun V h => pick_any b n (m + 2 + 2) v (by omega) 10 (by decide) (by decide) V h)
  have HON := Lib.hid (fun k (hk : k < 24) V h => one_any b n (m + 6 + 6 * k) v (by omega) 6 (by decide) (by decide) V h)
  have HP4 := Lib.hid (fun k (hk : k < 24) V h => pick_any b n (m + 6 + 6 * k + 2) v (by omega) 129 (by decide) (by decide) V h)
  have HP5 := Lib.hid (fun k (hk : k < 24) V h => pick_any b n (m + 6 + 6 * k + 4) v (by omega) 4 (by decide) (by decide) V h)
  have hbl : b < V.heap.size := by obtain ⟨_, _, _, _, _, _, _, hr⟩ := h; exact row_lt hr
  have HS0 := Lib.hid h
  have HBI : Hid (Tryz.prog.built 46 [] = some (sunC zS zS)) := by unfold Hid; kernel_rfl
  clear h
  go_enter Tryz.func45, Tryz.ntmps45
  go_upto_region 1 with (fail)
  have hga : V.grownBy (V.alloc (.cells (sunC zS zS) 46)) none := World.grownBy_alloc V _ none
  refine abs_code (fun W => W.heap[V.heap.size]? = some (.cells (sunC zS zS) 46 (0, 0)) ∧ SrcAt W b v n m ∧ V.grownBy W (some b)) ⟨heap_alloc_new _ _, src_kept HS0.out hga (fun g e => by cases e), grown_wide hga⟩ ?_
  rintro W ⟨h0, hs, hg⟩
  have H0 := Lib.hid h0
  have HS := Lib.hid hs
  have HG := Lib.hid hg
  have hne0 : V.heap.size ≠ b := by omega
  generalize hg0 : V.heap.size = g0 at *
  have hl3 : g0 < W.heap.size := row_lt h0
  clear h0 hs hg HS0 hga
  go_upto_region 2 with (first | (refine wpList_buildL rfl 46 _ rfl _ rfl [] rfl (sunC zS zS) HBI.out ?_) | (refine wpList_store_part rfl 46 _ _ rfl _ 0 (sunC zS zS) rfl rfl 46 _ (heap_alloc_new _ _) info_sun (Nat.le_refl _) (sun_oneT _ _) ?_; rw [laid_all _ _ (by rfl)]))
  refine abs_code (fun X => X.heap[g0]? = some (.cells (sunC zS zS) 46 (0, 0)) ∧ X.heap[W.heap.size]? = some (.cells (sunC zS zS) 46 (0, 0)) ∧ SrcAt X b v n m ∧ V.grownBy X (some b)) ⟨((alloc_row _ _).block _ (row_lt H0.out) (by simp)).trans H0.out, setRow_heap _ _ _ _ _ _ (heap_alloc_new _ _), src_kept HS.out (alloc_row _ _) (fun g e => by cases e), grown_t HG.out (grown_wide (alloc_row _ _))⟩ ?_
  have hW0 : V.heap.size ≤ W.heap.size := HG.out.size
  clear H0 HS HG HBI
  generalize W.heap.size = g3 at *
  rintro X ⟨h0, h3, hs, hg⟩
  have hne3 : g3 ≠ b := by omega
  have H0 := Lib.hid h0
  have H3 := Lib.hid h3
  have HS := Lib.hid hs
  have HG := Lib.hid hg
  clear h0 h3 hs hg
  go_upto_region 3 with (go_at_call 58; refine (HP1.out _ HS.out).mono ?_; rintro e W1 ⟨⟨p, rfl, p0, p1⟩, hs1, hg1⟩; replace HS := Lib.hid hs1; replace HG := Lib.hid (grown_t HG.out hg1); replace H0 := Lib.hid (row_grown H0.out hg1 hne0); replace H3 := Lib.hid (row_grown H3.out hg1 hne3); clear hs1 hg1; have hw1 : IntKind.i64.wrap (8 + p) = 8 + p := (by rw [IntWalk.i64_in _ (by omega)]))
  go_upto_region 4 with (go_at_call 58; refine (HP2.out _ HS.out).mono ?_; rintro e W2 ⟨⟨q, rfl, q0, q1⟩, hs1, hg1⟩; replace HS := Lib.hid hs1; replace HG := Lib.hid (grown_t HG.out hg1); replace H0 := Lib.hid (row_grown H0.out hg1 hne0); replace H3 := Lib.hid (row_grown H3.out hg1 hne3); clear hs1 hg1)
  go_upto_region 5 with (go_at_call 58; refine (HP3.out _ HS.out).mono ?_; rintro e W3 ⟨⟨r, rfl, r0, r1⟩, hs1, hg1⟩; replace HS := Lib.hid hs1; replace HG := Lib.hid (grown_t HG.out hg1); replace H0 := Lib.hid (row_grown H0.out hg1 hne0); replace H3 := Lib.hid (row_grown H3.out hg1 hne3); clear hs1 hg1)
  clear HP1 HP2 HP3 hw1
  obtain ⟨tp, htp⟩ : ∃ tp, tp = 8 + p := ⟨_, rfl⟩
  rw [← htp]
  have t0 : 8 ≤ tp := by omega
  have t1 : tp ≤ 64 := by omega
  clear htp p0 p1
  go_wp2
  go_loopw [7] (fun i wr => ∃ (k : Nat) (hs ts : List Int), k ≤ 24 ∧ i = .int .i64 (k : Int) ∧ hs.length = 24 ∧ ts.length = 24 ∧ okB hs ts = true ∧ wr.heap[g0]? = some (.cells (sunC zS zS) 46 (0, 0)) ∧ wr.heap[g3]? = some (.cells (sunC hs ts) 46 (0, 0)) ∧ SrcAt wr b v n (m + 6 + 6 * k) ∧ V.grownBy wr (some b)) (fun i _ => 24 - (intOf i).toNat)
  case atStart => exact ⟨0, zS, zS, by decide, rfl, rfl, rfl, zS_ok, H0.out, H3.out, HS.out, HG.out⟩
  case round =>
    clear H0 H3 HS HG
    obtain ⟨k, hs, ts, hk, rfl, hh, ht, hok, h0, h3, hsr, hg⟩ := hrel
    have H0 := Lib.hid h0
    have H3 := Lib.hid h3
    have HS := Lib.hid hsr
    have HG := Lib.hid hg
    have HOK := Lib.hid hok
    clear h0 h3 hsr hg hok
    by_cases hlt : k < 24
    · have HON2 := Lib.hid (HON.out k hlt)
      have HP42 := Lib.hid (HP4.out k hlt)
      have HP52 := Lib.hid (HP5.out k hlt)
      have z1 : (k : Int) < 24 := by omega
      have z2 : (0 : Int) ≤ (k : Int) := by omega
      have v1 : IntKind.i64.wrap ((k : Int) - 12) = (k : Int) - 12 := by rw [IntWalk.i64_in _ (by omega)]
      have v2 : IntKind.i64.wrap (12 - (k : Int)) = 12 - (k : Int) := by rw [IntWalk.i64_in _ (by omega)]
      have v3 : IntKind.i64.wrap ((k : Int) + 1) = (k : Int) + 1 := by rw [IntWalk.i64_in _ (by omega)]
      have v4 : IntKind.i64.wrap (10 * (k : Int)) = 10 * (k : Int) := by rw [IntWalk.i64_in _ (by omega)]
      have v5 : IntKind.i64.wrap (q + 10 * (k : Int)) = q + 10 * (k : Int) := by rw [IntWalk.i64_in _ (by omega)]
      clear HON HP4 HP5
      go_upto_if 30 with (first | (go_at_call 67; refine (l00Max_c _ _ _).mono ?_; rintro e w' ⟨⟨mx, rfl, mx0, mx1, mx2⟩, rfl⟩; have u1 : IntKind.i64.wrap (8 * mx) = 8 * mx := (by rw [IntWalk.i64_in _ (by omega)]); have u2 : IntKind.i64.wrap (tp - 8 * mx) = tp - 8 * mx := (by rw [IntWalk.i64_in _ (by omega)])) | (go_at_call 72; refine (HON2.out _ HS.out).mono ?_; rintro e W4 ⟨⟨rb, rfl⟩, hs1, hg1⟩; replace HS := Lib.hid hs1; replace HG := Lib.hid (grown_t HG.out hg1); replace H0 := Lib.hid (row_grown H0.out hg1 hne0); replace H3 := Lib.hid (row_grown H3.out hg1 hne3); clear hs1 hg1))
      obtain ⟨ht2, hht2⟩ : ∃ ht2, ht2 = tp - 8 * mx := ⟨_, rfl⟩
      rw [← hht2]
      have a0 : -100 ≤ ht2 := by omega
      have a1 : ht2 ≤ 100 := by omega
      clear u1 u2 hht2 mx0 mx1 mx2 v1 v2
      go_cut [8] (fun y wx => ∃ z : Int, y = .int .i64 z ∧ -100 ≤ z ∧ z ≤ 100 ∧ wx.heap[g0]? = some (.cells (sunC zS zS) 46 (0, 0)) ∧ wx.heap[g3]? = some (.cells (sunC hs ts) 46 (0, 0)) ∧ SrcAt wx b v n (m + 6 + 6 * k + 4) ∧ V.grownBy wx (some b))
      case first =>
        go_wp2_with (go_at_call 58; refine (HP42.out _ HS.out).mono ?_; rintro e W5 ⟨⟨y, rfl, y0, y1⟩, hs1, hg1⟩; replace HS := Lib.hid hs1; replace HG := Lib.hid (grown_t HG.out hg1); replace H0 := Lib.hid (row_grown H0.out hg1 hne0); replace H3 := Lib.hid (row_grown H3.out hg1 hne3); clear hs1 hg1; have u3 : IntKind.i64.wrap (y - 64) = y - 64 := (by rw [IntWalk.i64_in _ (by omega)]))
        all_goals
          go_meet
          case rel => exact ⟨_, rfl, by omega, by omega, H0.out, H3.out, src_mono HS.out (by omega), HG.out⟩
      case rest =>
        clear H0 H3 HS HG HON2 HP42 a0 a1
        obtain ⟨z, rfl, a0, a1, h0, h3, hsr, hg⟩ := hcut
        have H0 := Lib.hid h0
        have H3 := Lib.hid h3
        have HS := Lib.hid hsr
        have HG := Lib.hid hg
        clear h0 h3 hsr hg
        have u1 : IntKind.i64.wrap (z + r) = z + r := by rw [IntWalk.i64_in _ (by omega)]
        have u2 : IntKind.i64.wrap (z + r - 5) = z + r - 5 := by rw [IntWalk.i64_in _ (by omega)]
        have hszk := sunC_sizeT hh ht
        obtain ⟨q1, f1⟩ : (∃ u, wc.cell? ⟨g3, k, none⟩ = some u) ∧ wc.frozen? ⟨g3, k, none⟩ = false := ⟨⟨_, (cell_of_row _ _ _ _ _ _ H3.out).trans (Array.getElem?_eq_getElem (by rw [hszk]; omega))⟩, frozen_of_row _ g3 k _ _ H3.out⟩
        obtain ⟨uu, q1⟩ := q1
        go_upto_region 12 with (first | (go_at_call 60; refine (l00Min_c _ _ _).mono ?_; rintro e w' ⟨⟨mn, rfl, mn0, mn1, mn2⟩, rfl⟩) | (go_at_call 67; refine (l00Max_c _ _ _).mono ?_; rintro e w' ⟨⟨mx, rfl, mx0, mx1, mx2⟩, rfl⟩; have hm0 : -64 ≤ mx := (by omega); have hm1 : mx ≤ 64 := (by omega); have u4 : IntKind.i16.wrap mx = mx := (by rw [IntWalk.i16_in _ (by omega)])))
        refine abs_world (fun Y => Y.heap[g0]? = some (.cells (sunC zS zS) 46 (0, 0)) ∧ Y.heap[g3]? = some (.cells (sunC (hs.set k mx) ts) 46 (0, 0)) ∧ SrcAt Y b v n (m + 6 + 6 * k + 4) ∧ V.grownBy Y (some b)) ⟨(heap_setCell_other _ _ _ _ (by simp; omega)).trans H0.out, set_sunH H3.out k (by omega) mx, src_kept HS.out (grown_set (b := g3) (o := k) _) (fun g e => by injection e with e; omega), grown_new HG.out (grown_set (b := g3) (o := k) _) (by omega)⟩ ?_
        clear H0 H3 HS HG q1 f1
        rintro Y ⟨h0, h3, hsr, hg⟩
        have H0 := Lib.hid h0
        have H3 := Lib.hid h3
        have HS := Lib.hid hsr
        have HG := Lib.hid hg
        have HOK2 := Lib.hid (okB_setH (k := k) HOK.out hm0 hm1)
        have hh2 : (hs.set k mx).length = 24 := by rw [List.length_set]; exact hh
        clear h0 h3 hsr hg HOK u1 u2 u4 mn0 mn1 mn2 mx0 mx1 mx2 hszk
        generalize hs.set k mx = hs2 at *
        have hszk := sunC_sizeT hh2 ht
        go_upto_region 7 with (go_at_call 58; refine (HP52.out _ HS.out).mono ?_; rintro e W6 ⟨⟨y, rfl, y0, y1⟩, hs1, hg1⟩; replace HS := Lib.hid hs1; replace HG := Lib.hid (grown_t HG.out hg1); replace H0 := Lib.hid (row_grown H0.out hg1 hne0); replace H3 := Lib.hid (row_grown H3.out hg1 hne3); clear hs1 hg1; have s1 : IntKind.i64.wrap (q + 10 * (k : Int) + y) = q + 10 * (k : Int) + y := (by rw [IntWalk.i64_in _ (by omega)]); have s2 : (q + 10 * (k : Int) + y).tmod 256 = (q + 10 * (k : Int) + y) % 256 := (by rw [Int.tmod_eq_emod_of_nonneg (by omega)]); have s3 : IntKind.i16.wrap ((q + 10 * (k : Int) + y) % 256) = (q + 10 * (k : Int) + y) % 256 := (by rw [IntWalk.i16_in _ (by omega)]); obtain ⟨uu2, q1⟩ : ∃ u, W6.cell? ⟨g3, 24 + k, none⟩ = some u := ⟨_, (cell_of_row _ _ _ _ _ _ H3.out).trans (Array.getElem?_eq_getElem (by rw [hszk]; omega))⟩; have f1 := frozen_of_row _ g3 (24 + k) _ _ H3.out)
        refine abs_world (fun Y => Y.heap[g0]? = some (.cells (sunC zS zS) 46 (0, 0)) ∧ Y.heap[g3]? = some (.cells (sunC hs2 (ts.set k ((q + 10 * (k : Int) + y) % 256))) 46 (0, 0)) ∧ SrcAt Y b v n (m + 6 + 6 * k + 4 + 2) ∧ V.grownBy Y (some b)) ⟨(heap_setCell_other _ _ _ _ (by simp; omega)).trans H0.out, set_sunT H3.out hh2 k _, src_kept HS.out (grown_set (b := g3) (o := 24 + k) _) (fun g e => by injection e with e; omega), grown_new HG.out (grown_set (b := g3) (o := 24 + k) _) (by omega)⟩ ?_
        have o0 : 0 ≤ (q + 10 * (k : Int) + y) % 256 := by omega
        have o1 : (q + 10 * (k : Int) + y) % 256 ≤ 255 := by omega
        have ht2 : (ts.set k ((q + 10 * (k : Int) + y) % 256)).length = 24 := by rw [List.length_set]; exact ht
        have HOK3 := Lib.hid (okB_setT (k := k) HOK2.out o0 o1)
        clear H0 H3 HS HG q1 f1 s1 s2 s3
        rintro Y2 ⟨h0, h3, hsr, hg⟩
        have H0 := Lib.hid h0
        have H3 := Lib.hid h3
        have HS := Lib.hid hsr
        have HG := Lib.hid hg
        clear h0 h3 hsr hg
        go_wp2
        go_roundw
        case rel => exact ⟨k + 1, hs2, _, by omega, by first | rfl | go_num, hh2, ht2, HOK3.out, H0.out, H3.out, src_mono HS.out (by omega), HG.out⟩
        case measure => simp [intOf]; omega
    · obtain rfl : k = 24 := by omega
      have hsz := sunC_sizeT hh ht
      go_wp2_with (first | (refine wpList_load_part rfl 46 _ rfl g3 0 48 rfl 46 (sunC hs ts) (0, 0) _ H3.out Tryz.underlying46 rfl info_sun (by rw [hsz]; decide) (sunC hs ts) (by rw [Nat.zero_add, ← hsz, Array.extract_size]) ?_) | (refine wpList_store_part rfl 46 _ _ rfl g0 0 (sunC hs ts) rfl rfl 46 (sunC zS zS) H0.out (by rw [hsz]; exact info_sun) (by rw [hsz]; decide) (sun_oneT _ _) ?_; rw [laid_all _ _ (by rw [hsz]; rfl)]))
      have hsr : wr.grownBy (wr.setRow g0 (sunC hs ts)) (some g0) := ⟨rfl, rfl, rfl, by simp, fun k _ hk => setRow_other _ _ _ _ (fun e => hk (congrArg some e))⟩
      refine bodyPost_ret (v := .agg (sunC hs ts)) (results_cell_row rfl _ _ _ _ _ _ _ rfl (setRow_heap _ _ _ _ _ _ H0.out) Tryz.underlying46 rfl (by rw [hsz]; exact info_sun)) rfl ?_
      exact ⟨⟨_, _, rfl, hh, ht, HOK.out⟩, src_mono (src_kept HS.out hsr (fun g e => by injection e with e; omega)) (by omega), grown_new HG.out hsr (by omega)⟩

end Go.Proofs.YtmbgmpeiicjlaaaGreatDoor

namespace Go.Proofs.YtmbgmpeiicjlaaaGreatDoor

open Go.RowKit

set_option maxRecDepth 100000 in
set_option maxHeartbeats 4000000 in
theorem IsPart_b (a : Nat) (h : a ≤ 1065353216) (w : World) : Calls Tryz.prog 16 #[.float .f32 a] w fun e w' => e = .returned (.bool true) ∧ w = w' := by
  have HP := Lib.hid (fun w => l01Part_any a w)
  rw [tone_part h] at HP
  clear h
  go_enter Tryz.func16, Tryz.ntmps16
  go_wp2_with (go_at_call 44; refine (HP.out _).mono ?_; rintro e w' ⟨rfl, rfl⟩)
  go_ret
  exact ⟨rfl, rfl⟩

set_option maxRecDepth 100000 in
set_option maxHeartbeats 4000000 in
theorem A2Sun_any (n cap : Nat) (a : Option Addr) (V : World) (h : BytesAt V V.heap.size (.slice a n cap) n) :
    Calls Tryz.prog 17 #[.slice a n cap] V fun e V' => (∃ hs ts : List Int, e = .returned (.agg (sunC hs ts)) ∧ hs.length = 24 ∧ ts.length = 24 ∧ okB hs ts = true) ∧ Below V.heap.size V V' := by
  have HFR := Lib.hid (fun V h => l00From_any n cap a V h)
  have HT := Lib.hid (fun b V h => l01Drawn_any b n 0 (.slice a n cap) (by decide) V h)
  have HB0 := Lib.hid h
  clear h
  go_enter Tryz.func17, Tryz.ntmps17
  go_upto_region 1 with (fail)
  refine abs_code (fun W => W.heap[V.heap.size]? = some (.cells (sunC zS zS) 46 (0, 0)) ∧ Below V.heap.size V W) ⟨heap_alloc_new _ _, (Below.refl _ _).alloc (Nat.le_refl _) _⟩ ?_
  rintro W ⟨h0, hb⟩
  have H0 := Lib.hid h0
  have HBY := Lib.hid (bytes_below HB0.out hb hb.size)
  have hl0 := row_lt h0
  clear h0 HB0
  go_upto_region 99 with (first | (go_at_call 26; refine (HFR.out _ HBY.out).mono ?_; rintro e W1 ⟨rfl, hs1, hb1⟩) | (go_at_call 45; refine (HT.out _ _ hs1).mono ?_; rintro e W2 ⟨⟨hs, ts, rfl, hh, ht, hok⟩, hs2, hg2⟩; have H2 := Lib.hid (row_grown (below_row hb1 H0.out) hg2 (by omega)); have hb2 := below_grown hb1 hg2 (Nat.le_refl _); have hsz := sunC_sizeT hh ht) | (refine wpList_store_part rfl 46 _ _ rfl V.heap.size 0 (sunC hs ts) rfl rfl 46 (sunC zS zS) H2.out (by rw [hsz]; exact info_sun) (by rw [hsz]; decide) (sun_oneT _ _) ?_; rw [laid_all _ _ (by rw [hsz]; rfl)]))
  refine bodyPost_ret (v := .agg (sunC hs ts)) (results_cell_row rfl _ _ _ _ _ _ _ rfl (setRow_heap _ _ _ _ _ _ H2.out) Tryz.underlying46 rfl (by rw [hsz]; exact info_sun)) rfl ?_
  exact ⟨⟨_, _, rfl, hh, ht, hok⟩, below_setRow (hb.trans (hb2.mono hb.size)) (Nat.le_refl _) _⟩

theorem len24k {xs : List Int} (h : xs.length = 24) : ∃ a0 a1 a2 a3 a4 a5 a6 a7 a8 a9 a10 a11 a12 a13 a14 a15 a16 a17 a18 a19 a20 a21 a22 a23 : Int, xs = [a0, a1, a2, a3, a4, a5, a6, a7, a8, a9, a10, a11, a12, a13, a14, a15, a16, a17, a18, a19, a20, a21, a22, a23] := by
  match xs, h with
  | [a0, a1, a2, a3, a4, a5, a6, a7, a8, a9, a10, a11, a12, a13, a14, a15, a16, a17, a18, a19, a20, a21, a22, a23], _ => exact ⟨_, _, _, _, _, _, _, _, _, _, _, _, _, _, _, _, _, _, _, _, _, _, _, _, rfl⟩

set_option maxRecDepth 100000 in
theorem built_suns (h0 t0 h1 t1 : List Int) (e0 : h0.length = 24) (f0 : t0.length = 24) (e1 : h1.length = 24) (f1 : t1.length = 24) : Tryz.prog.builtSlice 46 2 [(0, .agg (sunC h0 t0)), (1, .agg (sunC h1 t1))] = some (sunC h0 t0 ++ sunC h1 t1) := by
  obtain ⟨a0, a1, a2, a3, a4, a5, a6, a7, a8, a9, a10, a11, a12, a13, a14, a15, a16, a17, a18, a19, a20, a21, a22, a23, rfl⟩ := len24k e0
  obtain ⟨b0, b1, b2, b3, b4, b5, b6, b7, b8, b9, b10, b11, b12, b13, b14, b15, b16, b17, b18, b19, b20, b21, b22, b23, rfl⟩ := len24k f0
  obtain ⟨c0, c1, c2, c3, c4, c5, c6, c7, c8, c9, c10, c11, c12, c13, c14, c15, c16, c17, c18, c19, c20, c21, c22, c23, rfl⟩ := len24k e1
  obtain ⟨d0, d1, d2, d3, d4, d5, d6, d7, d8, d9, d10, d11, d12, d13, d14, d15, d16, d17, d18, d19, d20, d21, d22, d23, rfl⟩ := len24k f1
  kernel_rfl

theorem wpList_buildSliceS {P : Program} {ops : Array Oper} {rest : List Oper} {o : Oper} {a : Act} {w : World} {Q : Exit → Act → World → Prop} (hg : o.guard = none) (t e : TypeId) (len : Nat) (parts : Array (Nat × Operand)) (ho : o.op = .buildSlice t len parts)
    (N : Nat) (hN : w.heap.size = N) (dst : Option Tmp) (hdst : o.dst = dst) (hu : P.underlying t = some (.slice e)) (cells : Array Value) (q : List (Nat × Value)) (hp : parts.toList.map (fun x => (x.1, a.eval x.2)) = q)
    (hf : P.builtSlice e len q = some cells)
    (h : wpList P ops Q rest (a.put dst (.slice (some ⟨N, 0, none⟩) len len)) (w.alloc (.cells cells e))) : wpList P ops Q (o :: rest) a w := by
  refine Great.wpList_buildSliceTo hg t e len parts ho N hN dst hdst hu cells ?_ h
  rw [Array.toList_map, ← hf, ← hp]

theorem suns_ext (h0 t0 h1 t1 : List Int) (e0 : h0.length = 24) (f0 : t0.length = 24) (e1 : h1.length = 24) (f1 : t1.length = 24) : (sunC h0 t0 ++ sunC h1 t1).extract 0 (0 + 48) = sunC h0 t0 ∧ (sunC h0 t0 ++ sunC h1 t1).extract 48 (48 + 48) = sunC h1 t1 := by
  have s0 := sunC_sizeT e0 f0
  have s1 := sunC_sizeT e1 f1
  constructor
  · rw [Array.extract_append, s0]
    simp [← s0]
  · rw [Array.extract_append, s0]
    have : (sunC h1 t1).extract 0 48 = sunC h1 t1 := by rw [← s1]; exact Array.extract_size
    simp [s0]
    rw [show (sunC h0 t0).extract 48 48 = #[] from Array.extract_empty_of_stop_le_start (Nat.le_refl _), this, Array.empty_append]

theorem suns_two {W : World} {N : Nat} {fr : Nat × Nat} {h0 t0 h1 t1 : List Int} (e0 : h0.length = 24) (f0 : t0.length = 24) (hr : W.heap[N]? = some (.cells (sunC h0 t0 ++ sunC h1 t1) 46 fr)) : SunsAt W (.slice (some ⟨N, 0, none⟩) 2 2) [(h0, t0), (h1, t1)] := by
  have s0 := sunC_sizeT e0 f0
  refine ⟨_, 2, rfl, Nat.le_refl _, by unfold maxLen; decide, fun i x hx => ⟨N, 0, rfl, fun j v hv => ?_⟩⟩
  rw [cell_of_row W _ _ _ _ _ hr]
  match i, hx with
  | 0, hx =>
    obtain rfl := Option.some.inj hx
    have hj := (Array.getElem?_eq_some_iff.1 hv).1
    have e : 0 + 0 * 48 + j = j := by omega
    rw [e, Array.getElem?_append_left (show j < (sunC h0 t0).size from hj)]
    exact hv
  | 1, hx =>
    obtain rfl := Option.some.inj hx
    rw [Array.getElem?_append_right (by omega), s0]
    have e : 0 + 1 * 48 + j - 48 = j := by omega
    rw [e]
    exact hv
  | i + 2, hx => simp at hx

set_option maxRecDepth 100000 in
set_option maxHeartbeats 4000000 in
theorem A2Bits_any (n cap : Nat) (a : Option Addr) (k : Int) (wd gp : Nat) (t : Int) (sh : Nat) (k1 : 1 ≤ k) (k60 : k ≤ 60) (V : World) (h : BytesAt V V.heap.size (.slice a n cap) n) :
    Calls Tryz.prog 6 #[.slice a n cap, .agg (blindC k wd gp t sh)] V fun e V' => (∃ r : Nat, e = .returned (.int .u32 (r : Int)) ∧ r < 2 ^ (mB k).toNat) ∧ Below V.heap.size V V' := by
  have HFR := Lib.hid (fun V h => l00From_any n cap a V h)
  have HRW := Lib.hid (fun b V h => l01Raw_any b n 0 (.slice a n cap) (by decide) V h)
  obtain ⟨m, hm⟩ : ∃ m, m = (mB k).toNat := ⟨_, rfl⟩
  have hmk : mB k = (m : Int) := by rw [hm]; unfold mB; split <;> omega
  have hm24 : m ≤ 24 := by have := mB_le k; omega
  have HLK := Lib.hid (fun g W hg => l07Looked_any k wd gp t sh (by omega) (by omega) g 28 (0, 0) W hg)
  rw [hmk] at HLK
  rw [← hm]
  have HB0 := Lib.hid h
  have hp : 0 < 2 ^ m := Nat.two_pow_pos _
  have hp2 : 2 ^ m ≤ 2 ^ 24 := Nat.pow_le_pow_right (by decide) hm24
  have ec : (2 : Int) ^ m = ((2 ^ m : Nat) : Int) := by rw [Int.natCast_pow]; rfl
  have z1 : IntKind.u64.wrap (m : Int) = (m : Int) := by rw [IntWalk.u64_in _ (by omega)]
  have z2 : (2 : Int) ^ m % 4294967296 = (2 : Int) ^ m := by rw [ec]; omega
  have z3 : IntKind.u32.wrap ((2 : Int) ^ m - 1) = ((2 ^ m - 1 : Nat) : Int) := by rw [ec, IntWalk.u32_in _ (by omega)]; omega
  have z4 : ∀ r : Nat, r < 4294967296 → bits .and .u32 (r : Int) ((2 ^ m - 1 : Nat) : Int) = ((r % 2 ^ m : Nat) : Int) := fun r hr => by rw [u32_and_nat _ _ hr (by omega), Nat.and_two_pow_sub_one_eq_mod]
  have HM : Hid (∀ r : Nat, r % 2 ^ m < 2 ^ m) := fun r => Nat.mod_lt _ hp
  clear h k1 k60 hm hmk ec hp
  go_enter Tryz.func6, Tryz.ntmps6
  go_upto_region 1 with (fail)
  refine abs_code (fun W => W.heap[V.heap.size]? = some (.cells (blindC k wd gp t sh) 28 (0, 0)) ∧ Below V.heap.size V W) ⟨heap_alloc_new _ _, (Below.refl _ _).alloc (Nat.le_refl _) _⟩ ?_
  rintro W ⟨h0, hb⟩
  have H0 := Lib.hid h0
  have HBY := Lib.hid (bytes_below HB0.out hb hb.size)
  have hl0 := row_lt h0
  clear h0 HB0
  go_upto_region 2 with (first | (go_at_call 26; refine (HFR.out _ HBY.out).mono ?_; rintro e W1 ⟨rfl, hs1, hb1⟩) | (go_at_call 27; refine (HRW.out _ _ hs1).mono ?_; rintro e W2 ⟨⟨r, rfl, hr⟩, hs2, hg2⟩; have H2 := Lib.hid (row_grown (below_row hb1 H0.out) hg2 (by omega)); have hb2 := below_grown hb1 hg2 (Nat.le_refl _); have hz4 := z4 r hr; clear hs2))
  clear z4 H0 HBY HRW HFR
  go_wp2_with (go_at_call 28; refine (HLK.out _ _ H2.out).mono ?_; rintro e w' ⟨rfl, rfl⟩)
  go_ret
  exact ⟨⟨_, rfl, HM.out r⟩, hb.trans (hb2.mono hb.size)⟩

end Go.Proofs.YtmbgmpeiicjlaaaGreatDoor
