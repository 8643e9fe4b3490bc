/-
  YrF.
-/
import Derived.Test.YtmniodfdoidffaaDoorMy2
import Derived.Test.YtmniodfdoidffaaDoorNew

namespace Go.Proofs.YtmniodfdoidffaaDoor
open Go.ChangeShapes Go.WideShapes Go.ChangeAt Go.RowKit Go.Deep Go.Joins

attribute [local go_sem] run_store_f

/-- The light of a year on a window faced so. -/
def yrS (wd gp : Nat) (t : Int) (sh : Nat) (ws : List Su) (e : Nat) : Nat := sumL (ws.map (dyL wd gp t sh (e : Int))) ws.length

def gYr (wd gp : Nat) (t : Int) (sh : Nat) (ws : List Su) (st : Nat) : List Nat := (List.range (255 / st + 1)).map (fun j => yrS wd gp t sh ws (j * st))

theorem gYr_len (wd gp : Nat) (t : Int) (sh : Nat) (ws : List Su) (st : Nat) : (gYr wd gp t sh ws st).length = 255 / st + 1 := by simp [gYr]

theorem gYr_get (wd gp : Nat) (t : Int) (sh : Nat) (ws : List Su) (st : Nat) {j : Nat} (h : j < 255 / st + 1) : (gYr wd gp t sh ws st)[j]? = some (yrS wd gp t sh ws (j * st)) := by simp [gYr, h]

theorem face_lt {st j : Nat} (h8 : 8 ≤ st) : j < 255 / st + 1 ↔ j * st ≤ 255 := by
  rw [← Nat.le_div_iff_mul_le (by omega)]
  omega

theorem faces_le {st : Nat} (h8 : 8 ≤ st) : 255 / st + 1 ≤ 32 := by
  have : 255 / st ≤ 255 / 8 := Nat.div_le_div_left h8 (by decide)
  omega

def bFy (zs : List Nat) (st j : Nat) : Nat := if j = 0 then 0 else bstI zs j * st

def mFy (zs : List Nat) (j : Nat) : Nat := if j = 0 then 3212836864 else zs.getD (bstI zs j) 0

theorem mFy_fin {zs : List Nat} (h : ∀ z ∈ zs, fin32 z = true) {j : Nat} (hj : j ≤ zs.length) (h0 : 0 < zs.length) : fin32 (mFy zs j) = true := by
  unfold mFy
  split
  · decide +kernel
  · have hb := bstI_lt zs h0 j hj
    rw [List.getD, List.getElem?_eq_getElem hb]
    exact h _ (List.getElem_mem _)

theorem fy_step {zs : List Nat} {st j : Nat} {od : Ordering} (hp : pos32 (zs.getD j 0) = true) (ho : FloatKind.f32.format.order (zs.getD j 0) (mFy zs j) = some od) :
    (od = .gt → bFy zs st (j + 1) = j * st ∧ mFy zs (j + 1) = zs.getD j 0) ∧ (od ≠ .gt → bFy zs st (j + 1) = bFy zs st j ∧ mFy zs (j + 1) = mFy zs j) := by
  unfold bFy mFy at *
  rw [if_neg (by omega : ¬ j + 1 = 0), if_neg (by omega : ¬ j + 1 = 0)]
  by_cases h0 : j = 0
  · subst h0
    rw [if_pos rfl] at ho ⊢
    rw [if_pos rfl, bstI_one]
    rw [pos_above hp] at ho
    injection ho with ho
    exact ⟨fun _ => ⟨rfl, rfl⟩, fun h => absurd ho.symm h⟩
  · rw [if_neg h0] at ho ⊢
    rw [if_neg h0]
    constructor
    · intro h
      have e : gtY (zs.getD j 0) (zs.getD (bstI zs j) 0) = true := by unfold gtY; rw [ho, h]; rfl
      rw [bstI_up e]
      exact ⟨rfl, rfl⟩
    · intro h
      have e : gtY (zs.getD j 0) (zs.getD (bstI zs j) 0) = false := by unfold gtY; rw [ho]; cases od <;> first | rfl | exact absurd rfl h
      rw [bstI_stay e]
      exact ⟨rfl, rfl⟩

theorem inF_nat {e : Nat} (h : e ≤ 255) : inF (e : Int) = true := by
  unfold inF
  exact inB_mk (by omega)

set_option maxRecDepth 100000 in
set_option maxHeartbeats 8000000 in
theorem iYearFacing_yes (n : Int) (wd gp : Nat) (t : Int) (sh : Nat) (T0 : -32768 ≤ t) (T1 : t ≤ 32767) (sv : Value) (ws : List Su) (hwf : ∀ x ∈ ws, SuWf x) (bw : BlWf n wd gp t sh) (st : Nat) (h8 : 8 ≤ st) (h255 : st ≤ 255) (hc : codeY (okBl n wd gp t sh) ws true = 0) (w : World) (hz : SunsAt w sv ws) :
    Calls Tryd.prog 50 #[.agg (blindC n wd gp t sh), sv, .int .i64 (st : Int)] w fun e w' => e = .returned (.tuple #[.int .i64 ((bstI (gYr wd gp t sh ws st) (255 / st + 1) : Int) * (st : Int)), .float .f32 ((gYr wd gp t sh ws st).getD (bstI (gYr wd gp t sh ws st) (255 / st + 1)) 0), .int .i64 0]) ∧ Below w.heap.size w w' := by
  obtain ⟨i0, hin, hz0, hz1, hz2⟩ := info_parts info_f32
  obtain ⟨hk, ha, ⟨l1, l12⟩, -⟩ := codeY_ok hc
  have OK := blok_of bw hk
  have HC := Lib.hid (fun w hz => checkYear_any n wd gp t sh T0 T1 sv ws hwf true w hz)
  have h00 : rfV (yrRf 0) = .nilIface := rfl
  rw [hc, h00] at HC
  clear h00
  have hok : ∀ x ∈ ws, okSu x = true := List.all_eq_true.1 ha
  have hn := fun w => run_neq_nil_nil (P := Tryd.prog) (w := w) 86 (by kernel_rfl)
  have HZ := Lib.hid hz
  have hst : st ≤ 255 := by omega
  have HINF : Hid (∀ e : Nat, e ≤ 255 → inF (e : Int) = true) := Lib.hid (fun e he => inF_nat he)
  have HPOA : Hid (∀ e : Nat, e ≤ 255 → ∀ z ∈ ws.map (dyL wd gp t sh (e : Int)), pos32 z = true) := by
    intro e he z hz
    obtain ⟨x, hx, rfl⟩ := List.mem_map.1 hz
    exact dyL_pos n wd gp t sh OK _ x (hwf x hx) (hok x hx)
  have HYL0 : Hid (∀ e : Nat, e ≤ 255 → ∀ w, SunsAt w sv ws → Calls Tryd.prog 93 #[.agg (blindC n wd gp t sh), sv, .int .i64 (e : Int)] w fun r w' => (∃ v, r = .returned v ∧ Own w' w.heap.size 25 (Value.float .f32) v (ws.map (dyL wd gp t sh (e : Int)))) ∧ Below w.heap.size w w') := fun e he w hz => yearLight_any n wd gp t sh OK sv ws hwf hok l12 (e : Int) (inF_nat he) w hz
  have HAD0 : Hid (∀ e : Nat, e ≤ 255 → ∀ v w, FloatsAt w v (ws.map (dyL wd gp t sh (e : Int))) → Calls Tryd.prog 97 #[v] w fun r w' => r = .returned (.float .f32 (yrS wd gp t sh ws e)) ∧ w = w') := by
    intro e he v w hv
    have h := addedP_any v _ (HPOA.out e he) w hv
    rw [List.length_map] at h
    exact h
  have HGL := Lib.hid (gYr_len wd gp t sh ws st)
  have HGG := Lib.hid (fun j (h : j < 255 / st + 1) => gYr_get wd gp t sh ws st h)
  have HFL := Lib.hid (fun j => face_lt (st := st) (j := j) h8)
  have hm32 := faces_le h8
  have HGP : Hid (∀ z ∈ (gYr wd gp t sh ws st), fin32 z = true) := by
    intro z hz
    obtain ⟨j, hj, rfl⟩ := List.mem_map.1 hz
    have hj' : j * st ≤ 255 := (face_lt h8).1 (List.mem_range.1 hj)
    exact pos_fin (sumL_pos (HPOA.out _ hj') (by rw [List.length_map]; exact Nat.le_refl _))
  generalize hG : (gYr wd gp t sh ws st) = zs at *
  have HGR := Lib.hid (fun v w hv => greatestOf_any v zs HGP.out (by rw [HGL.out]; exact Nat.le_add_left 1 _) w hv)
  rw [HGL.out] at HGR
  have HBL := Lib.hid (bstI_lt zs (n := 255 / st + 1) (Nat.succ_pos _) (255 / st + 1) (Nat.le_refl _))
  have hbm : bstI zs (255 / st + 1) * st ≤ 255 := (face_lt h8).1 HBL.out
  have hwm : IntKind.i64.wrap ((bstI zs (255 / st + 1) : Int) * (st : Int)) = (bstI zs (255 / st + 1) : Int) * (st : Int) := by
    rw [IntWalk.i64_in]
    have e : ((bstI zs (255 / st + 1) : Int) * (st : Int)) = ((bstI zs (255 / st + 1) * st : Nat) : Int) := by rw [Int.natCast_mul]
    rw [e]
    omega
  have HWM := Lib.hid hwm
  generalize 255 / st + 1 = m at *
  obtain ⟨a, cap, rfl, -⟩ := hz
  have q1 : (8 : Int) ≤ (st : Int) := by omega
  have q2 : (st : Int) < 256 := by omega
  clear OK hwf hok hc hk ha bw T0 T1 l1 l12 HPOA HGP hG hwm hbm
  go_enter Tryd.func50, Tryd.ntmps50
  go_upto_region 1 with (fail)
  refine abs_world (fun W => Below w.heap.size w W ∧ W.heap[w.heap.size]? = some (.cells (blindC n wd gp t sh) 59 (0, 0))) ⟨(Below.refl _ _).alloc (Nat.le_refl _) _, heap_alloc_new _ _⟩ ?_
  rintro W ⟨hb, h0⟩
  have H0 := Lib.hid h0
  clear h0
  go_upto_region 6 with (first | (refine wpList_load_part rfl 59 _ rfl w.heap.size 0 5 rfl 59 (blindC n wd gp t sh) (0, 0) _ H0.out Tryd.underlying59 rfl info_blind (blind_fits _ _ _ _ _) _ (blind_all _ _ _ _ _) ?_) | (go_at_call 91; refine (HC.out _ (suns_below HZ.out hb)).mono ?_; rintro e W1 ⟨rfl, hb1⟩; replace H0 := Lib.hid (below_row hb1 H0.out); replace hb := hb.trans (hb1.mono hb.size); clear hb1))
  have hrow0 : W1.ownsRow W1.heap.size 25 1 (.slice none 0 0) 0 [] := ⟨rfl, .inl ⟨rfl, rfl⟩⟩
  go_loopw [10, 11] (fun o i wr => ∃ (vo : Value) (j e : Nat), vo = o ∧ e = j * st ∧ j ≤ m ∧ i = .int .i64 (e : Int) ∧ wr.ownsRow W1.heap.size 25 1 o j ((zs.take j).map (Value.float .f32)) ∧ Below W1.heap.size W1 wr) (fun _ i _ => (256 - intOf i).toNat)
  case atStart => exact ⟨_, 0, 0, rfl, by simp, Nat.zero_le _, rfl, hrow0, Below.refl _ _⟩
  case round =>
    clear hrow0
    obtain ⟨vo, j, e, rfl, he, hjm, rfl, hrow, hbw⟩ := hrel
    by_cases hlt : j < m
    · have he255 : e ≤ 255 := by rw [he]; exact (HFL.out j).1 hlt
      have z0 : (0 : Int) ≤ (e : Int) := by omega
      have z1 : (e : Int) < 256 := by omega
      have HYL := Lib.hid (HYL0.out e he255)
      have HAD := Lib.hid (HAD0.out e he255)
      have HT : Hid (zs.take (j + 1) = zs.take j ++ [yrS wd gp t sh ws e]) := by
        have h := HGG.out j hlt
        rw [← he] at h
        exact Lib.hid (take_snoc h)
      have hne : (j + 1) * st = e + st := by rw [Nat.succ_mul, ← he]
      generalize ws.map (dyL wd gp t sh (e : Int)) = zf at *
      generalize yrS wd gp t sh ws e = y at *
      have HEN := Lib.hid hne
      clear hne he
      go_wp2_with (first | (refine wpList_load_part rfl 59 _ rfl w.heap.size 0 5 rfl 59 (blindC n wd gp t sh) (0, 0) _ (below_row hbw H0.out) Tryd.underlying59 rfl info_blind (blind_fits _ _ _ _ _) _ (blind_all _ _ _ _ _) ?_) | (go_at_call 93; refine (HYL.out _ (suns_below HZ.out (hb.trans (hbw.mono hb.size)))).mono ?_; rintro e3 W3 ⟨⟨v, rfl, hv⟩, hb3⟩; have HV := Lib.hid hv; clear hv; have hrow3 := owns_below hrow hb3; have hbw3 := hbw.trans (hb3.mono hbw.size); have hsz3 := hbw3.size) | (go_at_call 97; refine (HAD.out _ _ (own_floats HV.out)).mono ?_; rintro e4 W4 ⟨rfl, rfl⟩) | (at_builtin; refine wpList_append_own _ rfl _ _ 66 rfl W1.heap.size 25 i0 (.float .f32 0) 1 4 Tryd.underlying66 hin hz0 hz1 hz2 rfl (by decide) _ _ _ rfl (hrow3.alloc _) ⟨W3.heap.size, 0, none⟩ 1 1 [.float .f32 y] rfl rfl (cell_one_new _ _ _) (by simp [Value.oneCell']) (by unfold maxLen; omega) (by omega) (by simp; omega) ?_; intro v' w1 hown' hgrow _))
      go_roundw
      case rel => exact ⟨_, j + 1, e + st, rfl, HEN.out.symm, by omega, by first | (simp; done) | (simp; omega), by rw [HT.out]; simpa using hown', (hbw3.alloc (by omega) _).grown hgrow (by simp; omega) (row_base hrow3)⟩
      case measure => simp [intOf]; omega
    · obtain rfl : j = m := by omega
      have hge : ¬ e ≤ 255 := by rw [he]; intro h; exact hlt ((HFL.out j).2 h)
      have z1 : ¬ (e : Int) < 256 := by omega
      rw [List.take_of_length_le (by rw [HGL.out]; exact Nat.le_refl _)] at hrow
      have HR2 : Hid (Own wr W1.heap.size 25 (Value.float .f32) vo zs) := own_of_row (by rw [HGL.out]; exact hrow) (by rw [HGL.out]; unfold maxLen; omega)
      have hwm := HWM.out
      clear hrow
      go_wp2_with (go_at_call 95; refine (HGR.out _ _ (own_floats HR2.out)).mono ?_; rintro e4 W4 ⟨rfl, hb4⟩)
      go_ret3
      exact ⟨rfl, hb.trans ((hbw.trans (hb4.mono hbw.size)).mono hb.size)⟩

theorem ret3Y {a b : Int} {x y : Nat} (h1 : a = b) (h2 : x = y) : Ending.returned (.tuple #[.int .i64 a, .float .f32 x, .int .i64 0]) = .returned (.tuple #[.int .i64 b, .float .f32 y, .int .i64 0]) := by rw [h1, h2]

theorem Value_intE {a b : Nat} (h : a = b) : Value.int .i64 (a : Int) = .int .i64 (b : Int) := by rw [h]

set_option maxRecDepth 100000 in
set_option maxHeartbeats 8000000 in
theorem sYearFacing_yes (n : Int) (wd gp : Nat) (t : Int) (sh : Nat) (T0 : -32768 ≤ t) (T1 : t ≤ 32767) (N0 : -128 ≤ n) (N1 : n ≤ 127) (sv : Value) (ws : List Su) (hwf : ∀ x ∈ ws, SuWf x) (bw : BlWf n wd gp t sh) (st : Nat) (h8 : 8 ≤ st) (h255 : st ≤ 255) (hc : codeY (okBl n wd gp t sh) ws true = 0) (w : World) (hz : SunsAt w sv ws) :
    Calls Tryd.prog 49 #[.agg (blindC n wd gp t sh), sv, .int .i64 (st : Int)] w fun e w' => e = .returned (.tuple #[.int .i64 ((bstI (gYr wd gp t sh ws st) (255 / st + 1) : Int) * (st : Int)), .float .f32 ((gYr wd gp t sh ws st).getD (bstI (gYr wd gp t sh ws st) (255 / st + 1)) 0), .int .i64 0]) ∧ Below w.heap.size w w' := by
  obtain ⟨hk, ha, ⟨l1, l12⟩, -⟩ := codeY_ok hc
  have OK := blok_of bw hk
  have HY := Lib.hid (fun g1 w c1 hz => l07Year_any n wd gp t sh T0 T1 N0 N1 sv ws hwf true 0 hc g1 w c1 hz)
  have hok : ∀ x ∈ ws, okSu x = true := List.all_eq_true.1 ha
  have HZ := Lib.hid hz
  have hst : st ≤ 255 := by omega
  have HINF : Hid (∀ e : Nat, e ≤ 255 → inF (e : Int) = true) := Lib.hid (fun e he => inF_nat he)
  have HPOA : Hid (∀ e : Nat, e ≤ 255 → ∀ z ∈ ws.map (dyL wd gp t sh (e : Int)), pos32 z = true) := by
    intro e he z hz
    obtain ⟨x, hx, rfl⟩ := List.mem_map.1 hz
    exact dyL_pos n wd gp t sh OK _ x (hwf x hx) (hok x hx)
  have HD : Hid (∀ e : Nat, e ≤ 255 → ∀ x ∈ ws, ∀ (g1 g2 o : Nat) (W : World), W.heap[g1]? = some (.cells (blindC n wd gp t sh) 59 (0, 0)) → SunAt W g2 o x.1 x.2 → Calls Tryd.prog 89 #[.pointer (some ⟨g1, 0, none⟩), .pointer (some ⟨g2, o, none⟩), .int .i64 (e : Int)] W fun r w' => r = .returned (.float .f32 (dyL wd gp t sh (e : Int) x)) ∧ Below W.heap.size W w') := fun e he x hx g1 g2 o W c1 c2 => l07Day_any n wd gp t sh OK (e : Int) x (hwf x hx) (hok x hx) (inF_nat he) g1 g2 o W c1 c2
  have HI := Lib.hid (fun w => l00In_isY (st : Int) 8 255 true (by unfold inI; rw [decide_eq_true (by omega : (8 : Int) ≤ (st : Int)), decide_eq_true (by omega : (st : Int) ≤ 255)]; rfl) w)
  have HGL := Lib.hid (gYr_len wd gp t sh ws st)
  have HGG := Lib.hid (fun j (h : j < 255 / st + 1) => gYr_get wd gp t sh ws st h)
  have HFL := Lib.hid (fun j => face_lt (st := st) (j := j) h8)
  have hm32 := faces_le h8
  have HGP : Hid (∀ z ∈ (gYr wd gp t sh ws st), pos32 z = true) := by
    intro z hz
    obtain ⟨j, hj, rfl⟩ := List.mem_map.1 hz
    have hj' : j * st ≤ 255 := (face_lt h8).1 (List.mem_range.1 hj)
    exact sumL_pos (HPOA.out _ hj') (by rw [List.length_map]; exact Nat.le_refl _)
  generalize hG : (gYr wd gp t sh ws st) = zs at *
  have HYD : Hid (∀ e, yrS wd gp t sh ws e = sumL (ws.map (dyL wd gp t sh (e : Int))) ws.length) := fun e => rfl
  have HFM : Hid (∀ j, j ≤ zs.length → fin32 (mFy zs j) = true) := fun j hj => mFy_fin (fun z hz => pos_fin (HGP.out z hz)) hj (by rw [HGL.out]; exact Nat.succ_pos _)
  have hend : bFy zs st (255 / st + 1) = bstI zs (255 / st + 1) * st ∧ mFy zs (255 / st + 1) = zs.getD (bstI zs (255 / st + 1)) 0 := by
    unfold bFy mFy
    rw [if_neg (Nat.succ_ne_zero _), if_neg (Nat.succ_ne_zero _)]
    exact ⟨rfl, rfl⟩
  have HEND := Lib.hid hend
  generalize 255 / st + 1 = m at *
  obtain ⟨a, cap, rfl, hl1, hl2, _⟩ := hz
  unfold maxLen at hl2
  generalize hn : ws.length = n' at *
  have HN := Lib.hid hn
  have q1 : (8 : Int) ≤ (st : Int) := by omega
  clear hn OK hwf hok hc hk ha bw T0 T1 N0 N1 hG hend
  go_enter Tryd.func49, Tryd.ntmps49
  go_upto_region 1 with (fail)
  refine abs_world (fun W => Below w.heap.size w W ∧ W.heap[w.heap.size]? = some (.cells (blindC n wd gp t sh) 59 (0, 0))) ⟨(Below.refl _ _).alloc (Nat.le_refl _) _, heap_alloc_new _ _⟩ ?_
  rintro W ⟨hb, h0⟩
  have H0 := Lib.hid h0
  clear h0
  go_upto_region 7 with (first | (go_at_call 96; refine (HI.out _).mono ?_; rintro e w' ⟨rfl, rfl⟩) | (go_at_call 87; refine (HY.out _ _ H0.out (suns_below HZ.out hb)).mono ?_; rintro e w' ⟨rfl, rfl⟩))
  go_loopw [10, 11, 12] (fun b mm i wr => ∃ (j e : Nat), e = j * st ∧ j ≤ m ∧ i = .int .i64 (e : Int) ∧ b = .int .i64 (bFy zs st j : Int) ∧ mm = .float .f32 (mFy zs j) ∧ Below W.heap.size W wr) (fun _ _ i _ => (256 - intOf i).toNat)
  case atStart => exact ⟨0, 0, by simp, Nat.zero_le _, rfl, rfl, rfl, Below.refl _ _⟩
  case round =>
    obtain ⟨j, e, he, hjm, rfl, rfl, rfl, hbw⟩ := hrel
    by_cases hlt : j < m
    · have he255 : e ≤ 255 := by rw [he]; exact (HFL.out j).1 hlt
      have z0 : (0 : Int) ≤ (e : Int) := by omega
      have z1 : (e : Int) < 256 := by omega
      have HD1 := Lib.hid (HD.out e he255)
      have hne : (j + 1) * st = e + st := by rw [Nat.succ_mul, ← he]
      have HEN := Lib.hid hne
      have HEJ : Hid (j * st = e) := he.symm
      have hget := HGG.out j hlt
      rw [← he, HYD.out e] at hget
      have hxv := getD_at hget
      have hps := HGP.out _ (List.mem_of_getElem? hget)
      have hfm := HFM.out j (by rw [HGL.out]; exact hjm)
      have HSS := Lib.hid (fun (k : Nat) x (h : (ws.map (dyL wd gp t sh (e : Int)))[k]? = some x) => sumL_step (HPOA.out e he255) h)
      have HMD := Lib.hid (fun (k : Nat) x (h : ws[k]? = some x) => (by rw [List.getElem?_map, h]; rfl : (ws.map (dyL wd gp t sh (e : Int)))[k]? = some (dyL wd gp t sh (e : Int) x)))
      generalize ws.map (dyL wd gp t sh (e : Int)) = zf at *
      generalize dyL wd gp t sh (e : Int) = d at *
      obtain ⟨od, ho⟩ := order_some (pos_fin hps) hfm
      have HST0 := Lib.hid (fun h1 h2 => fy_step (zs := zs) (st := st) (j := j) (od := od) h1 h2)
      rw [hxv] at HST0
      have HST := Lib.hid (HST0.out hps ho)
      have HXV := Lib.hid hxv
      have HO := Lib.hid ho
      clear hne hget hxv hps hfm he HST0 ho
      generalize bFy zs st j = bb at *
      generalize mFy zs j = mm at *
      obtain ⟨wo, rfl⟩ : ∃ wo : World, wo = wr := ⟨_, rfl⟩
      go_wp2
      go_loopw [13, 14] (fun s i wr => ∃ k : Nat, k ≤ n' ∧ i = .int .i64 (k : Int) ∧ s = .float .f32 (sumL zf k) ∧ Below W.heap.size W wr) (fun _ i _ => n' - (intOf i).toNat)
      case atStart => exact ⟨0, Nat.zero_le _, rfl, rfl, hbw⟩
      case round =>
        clear hbw
        obtain ⟨k, hkn, rfl, rfl, hbk⟩ := hrel
        by_cases hlk : k < n'
        · have hx : ws[k]? = some (ws[k]'(by rw [HN.out]; exact hlk)) := List.getElem?_eq_getElem _
          obtain ⟨g, o, rfl, hcx⟩ := sun_at (suns_below HZ.out (hb.trans (hbk.mono hb.size))) hx
          generalize (ws[k]'(by rw [HN.out]; exact hlk)) = x at *
          have HDX := Lib.hid (HD1.out x (List.mem_of_getElem? hx))
          have HCX : Hid (SunAt _ g (o + k * 48) x.1 x.2) := Lib.hid hcx
          have hadd := HSS.out k _ (HMD.out k x hx)
          have radd : ∀ T w, (binOp .add T (.float .f32 (sumL zf k)) (.float .f32 (d x))).run Tryd.prog w = .ok (.float .f32 (sumL zf (k + 1))) w := fun T w => run_float_arith w .add T .f32 _ _ _ hadd
          have y0 : (0 : Int) ≤ (k : Int) := by omega
          have y1 : (k : Int) < (n' : Int) := by omega
          clear hx hcx hadd
          go_wp2_with (go_at_call 89; refine (HDX.out _ _ _ _ (below_row hbk H0.out) HCX.out).mono ?_; rintro e3 W3 ⟨rfl, hb3⟩; have hbk3 := hbk.trans (hb3.mono hbk.size))
          go_roundw
          case rel => exact ⟨k + 1, by omega, by go_num, by trivial, hbk3⟩
          case measure => simp [intOf]; omega
        · obtain rfl : k = n' := by omega
          have ho := HO.out
          clear HO HSS HMD HD1 hlk
          generalize sumL zf k = xv at *
          cases od with
          | gt =>
              have HE := Lib.hid (HST.out.1 rfl)
              clear HST
              go_wp2
              go_roundw
              case rel => exact ⟨j + 1, e + st, HEN.out.symm, by omega, by first | (simp; done) | (simp; omega), by rw [HE.out.1]; exact Value_intE HEJ.out.symm, by rw [HE.out.2], hbk⟩
              case measure => simp [intOf]; omega
          | lt =>
              have HE := Lib.hid (HST.out.2 (by decide))
              clear HST
              go_wp2
              go_roundw
              case rel => exact ⟨j + 1, e + st, HEN.out.symm, by omega, by first | (simp; done) | (simp; omega), by rw [HE.out.1], by rw [HE.out.2], hbk⟩
              case measure => simp [intOf]; omega
          | eq =>
              have HE := Lib.hid (HST.out.2 (by decide))
              clear HST
              go_wp2
              go_roundw
              case rel => exact ⟨j + 1, e + st, HEN.out.symm, by omega, by first | (simp; done) | (simp; omega), by rw [HE.out.1], by rw [HE.out.2], hbk⟩
              case measure => simp [intOf]; omega
    · obtain rfl : j = m := by omega
      have hge : ¬ e ≤ 255 := by rw [he]; intro h; exact hlt ((HFL.out j).2 h)
      have z1 : ¬ (e : Int) < 256 := by omega
      go_wp2
      go_ret3
      exact ⟨ret3Y (by rw [HEND.out.1, Int.natCast_mul]) HEND.out.2, hb.trans (hbw.mono hb.size)⟩

end Go.Proofs.YtmniodfdoidffaaDoor
