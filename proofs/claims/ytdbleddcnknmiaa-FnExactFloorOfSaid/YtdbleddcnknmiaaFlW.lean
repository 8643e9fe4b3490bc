/-
  FloorOf: the program and the model; floors of numbers compared.
-/
import Derived.Test.YtdbleddcnknmiaaFlS
import Derived.Test.YtdbleddcnknmiaaNew
import Derived.Test.YtdbleddcnknmiaaNear
import Derived.Test.YtdbleddcnknmiaaSameN
namespace Go.Proofs.Ytdbleddcnknmiaa
open Go.ChangeShapes Go.WideShapes Go.ChangeAt Go.RowKit Go.Deep Go.Joins

attribute [local go_sem] run_store_f

def zerF : List Nat := List.replicate 24 0

theorem zerF_length : zerF.length = 24 := rfl

set_option maxRecDepth 100000 in
theorem info_zf : (Try.prog.info? 34).map (·.size) = some (f32s zerF).size := by kernel_rfl

theorem flK_endN {g : Nat → Nat} {m : Nat} : ∀ k, m ≤ k → k ≤ 24 → (∀ j, m ≤ j → g j = 0) → flK g m = flK g k
  | 0, h, _, _ => by obtain rfl : m = 0 := by omega
                     rfl
  | k + 1, h, h24, hz => by
    by_cases e : m = k + 1
    · rw [e]
    · rw [flK_endN k (by omega) (by omega) hz, flK_zero g (by omega) (hz k (by omega))]

theorem flK_end {wh hg br : Nat} (k : Nat) (h : k ≤ 24) : flK (flP wh hg br k) k = flK (flP wh hg br k) 24 :=
  flK_endN 24 h (Nat.le_refl _) (fun j hj => if_neg (by omega))

theorem results_floor {fn : Func} {p u : Tmp} (h : fn.results = #[.cell p 34, .tmp u]) (tmps : Array Value) (w : World) (g : Nat) (xs : List Nat) (hx : xs.length = 24) (hp : tmps.getD p undef = .pointer (some ⟨g, 0, none⟩)) (hg : w.heap[g]? = some (.cells (f32s xs) 34 (0, 0))) :
    (results fn tmps).run Try.prog w = .ok (.tuple #[.agg (f32s xs), tmps.getD u undef]) w := by
  rw [results_cell_tmp h, hp]
  have e := run_loadVar_row w g 34 34 (f32s xs) (0, 0) _ hg Try.underlying34 rfl (by rw [f32s_size, hx]; exact info_floor)
  simp only [asAddr, Sem.run_pure, Result.andThen_ok, e]

set_option maxRecDepth 100000 in
set_option maxHeartbeats 2000000 in
theorem iFloor_not (n : Int) (wd gp : Nat) (t : Int) (sh : Nat) (T0 : -32768 ≤ t) (T1 : t ≤ 32767) (h : Int) (hi : inI 1 64 h = true) (br : Nat) (hbr : br < 4294967296) (fit : Bool) (hft : fitB br n = fit) (c : Int) (hc : codeC (okBl n wd gp t sh) fit = c) (hne : c ≠ 0) (w : World) :
    Calls Try.prog 12 #[.agg (blindC n wd gp t sh), .int .i64 h, .int .u32 (br : Int)] w fun e w' => e = .returned (.tuple #[.agg (f32s zerF), .int .i64 c]) ∧ Below w.heap.size w w' := by
  have Hc := Lib.hid hc
  have Hi := Lib.hid hi
  have hne' : (c != 0) = true := bne_iff_ne.2 hne
  have HF := fit_impl hbr n
  rw [hft] at HF
  clear hbr hft
  clear hc hi hne
  go_enter Try.func12, Try.ntmps12
  go_upto_region 1 with (fail)
  refine abs_code (fun W => W.heap[w.heap.size]? = some (.cells (blindC n wd gp t sh) 37 (0, 0)) ∧ W.heap[w.heap.size + 1]? = some (.cells (f32s zerF) 34 (0, 0)) ∧ Below w.heap.size w W) ⟨heap_alloc2_old _ _ _, heap_alloc2_new _ _ _, ((Below.refl _ _).alloc (Nat.le_refl _) _).alloc (by simp) _⟩ ?_
  rintro W ⟨h0, h1, hb⟩
  have hb1s : w.heap.size ≤ w.heap.size + 1 := by omega
  generalize w.heap.size + 1 = b1 at *
  have H0 := Lib.hid h0
  have H1 := Lib.hid h1
  clear h0 h1
  refine wp_region_held_drew (S := (fun V => Below W.heap.size W V)) (by kernel_rfl) (Below.refl _ _).drew (fun hHeld => ?_)
  refine take_op (i := 0) (d := 9) (v := .agg (blindC n wd gp t sh)) rfl rfl (by kernel_rfl) (by kernel_rfl) (by kernel_rfl) (fun _ _ _ h => h) (yields_row (by rfl) 37 (.tmp 3) (by rfl) w.heap.size 0 5 (by rfl) 37 (blindC n wd gp t sh) (0, 0) _ (fun _ h => below_row h H0.out) Try.underlying37 rfl info_blind (blind_fits _ _ _ _ _) (blindC n wd gp t sh) (blind_all _ _ _ _ _)) hHeld ?_
  simp only [List.setIfInBounds_toArray, List.set_cons_zero, List.set_cons_succ]
  refine take_op (i := 1) (d := 10) (v := ?_) rfl rfl (by kernel_rfl) (by kernel_rfl) (by kernel_rfl) (fun _ _ _ h => h) (Or.inl ⟨by rfl, ?hy1u19⟩) hHeld ?rest1u19
  case hy1u19 =>
    intro w' hS'
    go_simp
    try with_reducible rfl
  simp only [List.setIfInBounds_toArray, List.set_cons_zero, List.set_cons_succ]
  refine wpAnyH_ready (rs := [2]) (by kernel_rfl) (by simp) ?_
  refine AllReadyH.cons rfl (fun K hK => ?_) AllReadyH.nil
  go_simp
  refine (isHeight_is h true Hi.out _).mono ?_
  rintro e w' ⟨rfl, rfl⟩
  refine hK.out _ _ (hHeld) (fun hHeld2 => ?_)
  clear hK K
  replace hHeld := hHeld2
  clear hHeld2
  refine take_op (i := 3) (d := 12) (v := ?_) rfl rfl (by kernel_rfl) (by kernel_rfl) (by kernel_rfl) (fun _ _ _ h => h) (Or.inl ⟨by rfl, ?hy3u20⟩) hHeld ?rest3u20
  case hy3u20 =>
    intro w' hS'
    go_simp
    try with_reducible rfl
  simp only [List.setIfInBounds_toArray, List.set_cons_zero, List.set_cons_succ]
  refine take_op (i := 4) (d := 13) (v := ?_) rfl rfl (by kernel_rfl) (by kernel_rfl) (by kernel_rfl) (fun _ _ _ h => h) (Or.inl ⟨by rfl, ?hy4u21⟩) hHeld ?rest4u21
  case hy4u21 =>
    intro w' hS'
    go_simp
    try with_reducible rfl
  simp only [List.setIfInBounds_toArray, List.set_cons_zero, List.set_cons_succ]
  refine take_op (i := 5) (d := 14) (v := .agg (blindC n wd gp t sh)) rfl rfl (by kernel_rfl) (by kernel_rfl) (by kernel_rfl) (fun _ _ _ h => h) (yields_row (by rfl) 37 (.tmp 3) (by rfl) w.heap.size 0 5 (by rfl) 37 (blindC n wd gp t sh) (0, 0) _ (fun _ h => below_row h H0.out) Try.underlying37 rfl info_blind (blind_fits _ _ _ _ _) (blindC n wd gp t sh) (blind_all _ _ _ _ _)) hHeld ?_
  simp only [List.setIfInBounds_toArray, List.set_cons_zero, List.set_cons_succ]
  refine wpAnyH_ready (rs := [6]) (by kernel_rfl) (by simp) ?_
  refine AllReadyH.cons rfl (fun K hK => ?_) AllReadyH.nil
  go_simp
  refine (slatsOf_any n wd gp t sh _).mono ?_
  rintro e W1 ⟨rfl, hb1⟩
  refine hK.out _ _ (hHeld.trans (hb1.mono hHeld.size)) (fun hHeld2 => ?_)
  clear hK K
  replace hHeld := hHeld2
  clear hHeld2
  clear hb1
  refine take_op (i := 7) (d := 16) (v := ?_) rfl rfl (by kernel_rfl) (by kernel_rfl) (by kernel_rfl) (fun _ _ _ h => h) (Or.inl ⟨by rfl, ?hy7u22⟩) hHeld ?rest7u22
  case hy7u22 =>
    intro w' hS'
    go_simp
    try with_reducible rfl
  simp only [List.setIfInBounds_toArray, List.set_cons_zero, List.set_cons_succ]
  refine take_op (i := 8) (d := 17) (v := ?_) rfl rfl (by kernel_rfl) (by kernel_rfl) (by kernel_rfl) (fun _ _ _ h => h) (Or.inl ⟨by rfl, ?hy8u23⟩) hHeld ?rest8u23
  case hy8u23 =>
    intro w' hS'
    go_simp
    try with_reducible rfl
  simp only [List.setIfInBounds_toArray, List.set_cons_zero, List.set_cons_succ]
  refine take_op (i := 9) (d := 18) (v := ?_) rfl rfl (by kernel_rfl) (by kernel_rfl) (by kernel_rfl) (fun _ _ _ h => h) (Or.inl ⟨by rfl, ?hy9u24⟩) hHeld ?rest9u24
  case hy9u24 =>
    intro w' hS'
    go_simp
    try with_reducible rfl
  simp only [List.setIfInBounds_toArray, List.set_cons_zero, List.set_cons_succ]
  refine wpAnyH_ready (rs := [10]) (by kernel_rfl) (by simp) ?_
  refine AllReadyH.cons rfl (fun K hK => ?_) AllReadyH.nil
  go_simp
  refine (checkBlind_is n wd gp t sh T0 T1 fit c Hc.out _).mono ?_
  rintro e W1 ⟨rfl, hb1⟩
  refine hK.out _ _ (hHeld.trans (hb1.mono hHeld.size)) (fun hHeld2 => ?_)
  clear hK K
  replace hHeld := hHeld2
  clear hHeld2
  clear hb1
  refine take_op (i := 11) (d := 8) (v := ?_) rfl rfl (by kernel_rfl) (by kernel_rfl) (by kernel_rfl) (fun _ _ _ h => h) (Or.inl ⟨by rfl, ?hy11u25⟩) hHeld ?rest11u25
  case hy11u25 =>
    intro w' hS'
    go_simp
    try with_reducible rfl
  simp only [List.setIfInBounds_toArray, List.set_cons_zero, List.set_cons_succ]
  refine wpAnyH_done (by kernel_rfl) ?_ _
  replace H0 := Lib.hid (below_row hHeld H0.out)
  replace H1 := Lib.hid (below_row hHeld H1.out)
  replace hb := hb.trans (hHeld.mono hb.size)
  clear hHeld
  go_wp2_with (refine wpList_store_part rfl 34 _ _ rfl b1 0 (f32s zerF) rfl rfl 34 _ H1.out info_zf (by decide) (f32s_one _) ?_; rw [laid_all _ _ (by rfl)])
  refine bodyPost_ret (results_floor rfl _ _ b1 zerF zerF_length rfl (setRow_heap _ _ _ _ _ _ H1.out)) rfl ?_
  exact ⟨rfl, below_setRow hb hb1s _⟩

set_option maxRecDepth 100000 in
set_option maxHeartbeats 2000000 in
theorem iFloor_nof (n : Int) (wd gp : Nat) (t : Int) (sh : Nat) (T0 : -32768 ≤ t) (T1 : t ≤ 32767) (h : Int) (hi : inI 1 64 h = false) (br : Nat) (c : Int) (hc : codeC (okBl n wd gp t sh) false = c) (hne : c ≠ 0) (w : World) :
    Calls Try.prog 12 #[.agg (blindC n wd gp t sh), .int .i64 h, .int .u32 (br : Int)] w fun e w' => e = .returned (.tuple #[.agg (f32s zerF), .int .i64 c]) ∧ Below w.heap.size w w' := by
  have Hc := Lib.hid hc
  have Hi := Lib.hid hi
  have hne' : (c != 0) = true := bne_iff_ne.2 hne
  clear hc hi hne
  go_enter Try.func12, Try.ntmps12
  go_upto_region 1 with (fail)
  refine abs_code (fun W => W.heap[w.heap.size]? = some (.cells (blindC n wd gp t sh) 37 (0, 0)) ∧ W.heap[w.heap.size + 1]? = some (.cells (f32s zerF) 34 (0, 0)) ∧ Below w.heap.size w W) ⟨heap_alloc2_old _ _ _, heap_alloc2_new _ _ _, ((Below.refl _ _).alloc (Nat.le_refl _) _).alloc (by simp) _⟩ ?_
  rintro W ⟨h0, h1, hb⟩
  have hb1s : w.heap.size ≤ w.heap.size + 1 := by omega
  generalize w.heap.size + 1 = b1 at *
  have H0 := Lib.hid h0
  have H1 := Lib.hid h1
  clear h0 h1
  refine wp_region_held_drew (S := (fun V => Below W.heap.size W V)) (by kernel_rfl) (Below.refl _ _).drew (fun hHeld => ?_)
  refine take_op (i := 0) (d := 9) (v := .agg (blindC n wd gp t sh)) rfl rfl (by kernel_rfl) (by kernel_rfl) (by kernel_rfl) (fun _ _ _ h => h) (yields_row (by rfl) 37 (.tmp 3) (by rfl) w.heap.size 0 5 (by rfl) 37 (blindC n wd gp t sh) (0, 0) _ (fun _ h => below_row h H0.out) Try.underlying37 rfl info_blind (blind_fits _ _ _ _ _) (blindC n wd gp t sh) (blind_all _ _ _ _ _)) hHeld ?_
  simp only [List.setIfInBounds_toArray, List.set_cons_zero, List.set_cons_succ]
  refine take_op (i := 1) (d := 10) (v := ?_) rfl rfl (by kernel_rfl) (by kernel_rfl) (by kernel_rfl) (fun _ _ _ h => h) (Or.inl ⟨by rfl, ?hy1u26⟩) hHeld ?rest1u26
  case hy1u26 =>
    intro w' hS'
    go_simp
    try with_reducible rfl
  simp only [List.setIfInBounds_toArray, List.set_cons_zero, List.set_cons_succ]
  refine wpAnyH_ready (rs := [2]) (by kernel_rfl) (by simp) ?_
  refine AllReadyH.cons rfl (fun K hK => ?_) AllReadyH.nil
  go_simp
  refine (isHeight_is h false Hi.out _).mono ?_
  rintro e w' ⟨rfl, rfl⟩
  refine hK.out _ _ (hHeld) (fun hHeld2 => ?_)
  clear hK K
  replace hHeld := hHeld2
  clear hHeld2
  refine take_op (i := 3) (d := 12) (v := ?_) rfl rfl (by kernel_rfl) (by kernel_rfl) (by kernel_rfl) (fun _ _ _ h => h) (Or.inl ⟨by rfl, ?hy3u27⟩) hHeld ?rest3u27
  case hy3u27 =>
    intro w' hS'
    go_simp
    try with_reducible rfl
  simp only [List.setIfInBounds_toArray, List.set_cons_zero, List.set_cons_succ]
  refine take_op (i := 4) (d := 13) rfl rfl (by kernel_rfl) (by kernel_rfl) (by kernel_rfl) (fun _ _ _ h => h) (Or.inr ⟨by rfl, rfl⟩) hHeld ?_
  simp only [List.setIfInBounds_toArray, List.set_cons_zero, List.set_cons_succ]
  refine take_op (i := 5) (d := 14) rfl rfl (by kernel_rfl) (by kernel_rfl) (by kernel_rfl) (fun _ _ _ h => h) (Or.inr ⟨by rfl, rfl⟩) hHeld ?_
  simp only [List.setIfInBounds_toArray, List.set_cons_zero, List.set_cons_succ]
  refine take_op (i := 6) (d := 15) rfl rfl (by kernel_rfl) (by kernel_rfl) (by kernel_rfl) (fun _ _ _ h => h) (Or.inr ⟨by rfl, rfl⟩) hHeld ?_
  simp only [List.setIfInBounds_toArray, List.set_cons_zero, List.set_cons_succ]
  refine take_op (i := 7) (d := 16) rfl rfl (by kernel_rfl) (by kernel_rfl) (by kernel_rfl) (fun _ _ _ h => h) (Or.inr ⟨by rfl, rfl⟩) hHeld ?_
  simp only [List.setIfInBounds_toArray, List.set_cons_zero, List.set_cons_succ]
  refine take_op (i := 8) (d := 17) rfl rfl (by kernel_rfl) (by kernel_rfl) (by kernel_rfl) (fun _ _ _ h => h) (Or.inr ⟨by rfl, rfl⟩) hHeld ?_
  simp only [List.setIfInBounds_toArray, List.set_cons_zero, List.set_cons_succ]
  refine take_op (i := 9) (d := 18) (v := ?_) rfl rfl (by kernel_rfl) (by kernel_rfl) (by kernel_rfl) (fun _ _ _ h => h) (Or.inl ⟨by rfl, ?hy9u28⟩) hHeld ?rest9u28
  case hy9u28 =>
    intro w' hS'
    go_simp
    try with_reducible rfl
  simp only [List.setIfInBounds_toArray, List.set_cons_zero, List.set_cons_succ]
  refine wpAnyH_ready (rs := [10]) (by kernel_rfl) (by simp) ?_
  refine AllReadyH.cons rfl (fun K hK => ?_) AllReadyH.nil
  go_simp
  refine (checkBlind_is n wd gp t sh T0 T1 false c Hc.out _).mono ?_
  rintro e W1 ⟨rfl, hb1⟩
  refine hK.out _ _ (hHeld.trans (hb1.mono hHeld.size)) (fun hHeld2 => ?_)
  clear hK K
  replace hHeld := hHeld2
  clear hHeld2
  clear hb1
  refine take_op (i := 11) (d := 8) (v := ?_) rfl rfl (by kernel_rfl) (by kernel_rfl) (by kernel_rfl) (fun _ _ _ h => h) (Or.inl ⟨by rfl, ?hy11u29⟩) hHeld ?rest11u29
  case hy11u29 =>
    intro w' hS'
    go_simp
    try with_reducible rfl
  simp only [List.setIfInBounds_toArray, List.set_cons_zero, List.set_cons_succ]
  refine wpAnyH_done (by kernel_rfl) ?_ _
  replace H0 := Lib.hid (below_row hHeld H0.out)
  replace H1 := Lib.hid (below_row hHeld H1.out)
  replace hb := hb.trans (hHeld.mono hb.size)
  clear hHeld
  go_wp2_with (refine wpList_store_part rfl 34 _ _ rfl b1 0 (f32s zerF) rfl rfl 34 _ H1.out info_zf (by decide) (f32s_one _) ?_; rw [laid_all _ _ (by rfl)])
  refine bodyPost_ret (results_floor rfl _ _ b1 zerF zerF_length rfl (setRow_heap _ _ _ _ _ _ H1.out)) rfl ?_
  exact ⟨rfl, below_setRow hb hb1s _⟩

set_option maxRecDepth 100000 in
set_option maxHeartbeats 2000000 in
theorem iFloor_yes (n : Int) (wd gp : Nat) (t : Int) (sh : Nat) (T0 : -32768 ≤ t) (T1 : t ≤ 32767) (ok : BlOk n wd gp t sh) (hk : okBl n wd gp t sh = true) (h : Int) (hi : inI 1 64 h = true) (br : Nat) (hbr : br < 4294967296) (hft : fitB br n = true) (w : World) :
    Calls Try.prog 12 #[.agg (blindC n wd gp t sh), .int .i64 h, .int .u32 (br : Int)] w fun e w' => e = .returned (.tuple #[.agg (f32s (flB n wd gp t h br)), .int .i64 0]) ∧ Below w.heap.size w w' := by
  have Hi := Lib.hid hi
  have HF := fit_impl hbr n
  rw [hft] at HF
  obtain ⟨c, hc0⟩ : ∃ c : Int, c = 0 := ⟨0, rfl⟩
  obtain ⟨fit, hfit⟩ : ∃ f : Bool, f = true := ⟨true, rfl⟩
  have Hc : Hid (codeC (okBl n wd gp t sh) fit = c) := by rw [hk, hfit, hc0]; rfl
  have HO := Lib.hid (fun w => floorOf_any n wd gp t sh ok h (inI_get hi).1 (inI_get hi).2 br hbr (of_decide_eq_true hft) w)
  have HL := Lib.hid (flB_len n wd gp t h br)
  generalize flB n wd gp t h br = ys at *
  subst hc0 hfit
  clear ok hk hi hbr hft
  go_enter Try.func12, Try.ntmps12
  go_upto_region 1 with (fail)
  refine abs_code (fun W => W.heap[w.heap.size]? = some (.cells (blindC n wd gp t sh) 37 (0, 0)) ∧ W.heap[w.heap.size + 1]? = some (.cells (f32s zerF) 34 (0, 0)) ∧ Below w.heap.size w W) ⟨heap_alloc2_old _ _ _, heap_alloc2_new _ _ _, ((Below.refl _ _).alloc (Nat.le_refl _) _).alloc (by simp) _⟩ ?_
  rintro W ⟨h0, h1, hb⟩
  have hb1s : w.heap.size ≤ w.heap.size + 1 := by omega
  generalize w.heap.size + 1 = b1 at *
  have H0 := Lib.hid h0
  have H1 := Lib.hid h1
  clear h0 h1
  refine wp_region_held_drew (S := (fun V => Below W.heap.size W V)) (by kernel_rfl) (Below.refl _ _).drew (fun hHeld => ?_)
  refine take_op (i := 0) (d := 9) (v := .agg (blindC n wd gp t sh)) rfl rfl (by kernel_rfl) (by kernel_rfl) (by kernel_rfl) (fun _ _ _ h => h) (yields_row (by rfl) 37 (.tmp 3) (by rfl) w.heap.size 0 5 (by rfl) 37 (blindC n wd gp t sh) (0, 0) _ (fun _ h => below_row h H0.out) Try.underlying37 rfl info_blind (blind_fits _ _ _ _ _) (blindC n wd gp t sh) (blind_all _ _ _ _ _)) hHeld ?_
  simp only [List.setIfInBounds_toArray, List.set_cons_zero, List.set_cons_succ]
  refine take_op (i := 1) (d := 10) (v := ?_) rfl rfl (by kernel_rfl) (by kernel_rfl) (by kernel_rfl) (fun _ _ _ h => h) (Or.inl ⟨by rfl, ?hy1u30⟩) hHeld ?rest1u30
  case hy1u30 =>
    intro w' hS'
    go_simp
    try with_reducible rfl
  simp only [List.setIfInBounds_toArray, List.set_cons_zero, List.set_cons_succ]
  refine wpAnyH_ready (rs := [2]) (by kernel_rfl) (by simp) ?_
  refine AllReadyH.cons rfl (fun K hK => ?_) AllReadyH.nil
  go_simp
  refine (isHeight_is h true Hi.out _).mono ?_
  rintro e w' ⟨rfl, rfl⟩
  refine hK.out _ _ (hHeld) (fun hHeld2 => ?_)
  clear hK K
  replace hHeld := hHeld2
  clear hHeld2
  refine take_op (i := 3) (d := 12) (v := ?_) rfl rfl (by kernel_rfl) (by kernel_rfl) (by kernel_rfl) (fun _ _ _ h => h) (Or.inl ⟨by rfl, ?hy3u31⟩) hHeld ?rest3u31
  case hy3u31 =>
    intro w' hS'
    go_simp
    try with_reducible rfl
  simp only [List.setIfInBounds_toArray, List.set_cons_zero, List.set_cons_succ]
  refine take_op (i := 4) (d := 13) (v := ?_) rfl rfl (by kernel_rfl) (by kernel_rfl) (by kernel_rfl) (fun _ _ _ h => h) (Or.inl ⟨by rfl, ?hy4u32⟩) hHeld ?rest4u32
  case hy4u32 =>
    intro w' hS'
    go_simp
    try with_reducible rfl
  simp only [List.setIfInBounds_toArray, List.set_cons_zero, List.set_cons_succ]
  refine take_op (i := 5) (d := 14) (v := .agg (blindC n wd gp t sh)) rfl rfl (by kernel_rfl) (by kernel_rfl) (by kernel_rfl) (fun _ _ _ h => h) (yields_row (by rfl) 37 (.tmp 3) (by rfl) w.heap.size 0 5 (by rfl) 37 (blindC n wd gp t sh) (0, 0) _ (fun _ h => below_row h H0.out) Try.underlying37 rfl info_blind (blind_fits _ _ _ _ _) (blindC n wd gp t sh) (blind_all _ _ _ _ _)) hHeld ?_
  simp only [List.setIfInBounds_toArray, List.set_cons_zero, List.set_cons_succ]
  refine wpAnyH_ready (rs := [6]) (by kernel_rfl) (by simp) ?_
  refine AllReadyH.cons rfl (fun K hK => ?_) AllReadyH.nil
  go_simp
  refine (slatsOf_any n wd gp t sh _).mono ?_
  rintro e W1 ⟨rfl, hb1⟩
  refine hK.out _ _ (hHeld.trans (hb1.mono hHeld.size)) (fun hHeld2 => ?_)
  clear hK K
  replace hHeld := hHeld2
  clear hHeld2
  clear hb1
  refine take_op (i := 7) (d := 16) (v := ?_) rfl rfl (by kernel_rfl) (by kernel_rfl) (by kernel_rfl) (fun _ _ _ h => h) (Or.inl ⟨by rfl, ?hy7u33⟩) hHeld ?rest7u33
  case hy7u33 =>
    intro w' hS'
    go_simp
    try with_reducible rfl
  simp only [List.setIfInBounds_toArray, List.set_cons_zero, List.set_cons_succ]
  refine take_op (i := 8) (d := 17) (v := ?_) rfl rfl (by kernel_rfl) (by kernel_rfl) (by kernel_rfl) (fun _ _ _ h => h) (Or.inl ⟨by rfl, ?hy8u34⟩) hHeld ?rest8u34
  case hy8u34 =>
    intro w' hS'
    go_simp
    try with_reducible rfl
  simp only [List.setIfInBounds_toArray, List.set_cons_zero, List.set_cons_succ]
  refine take_op (i := 9) (d := 18) (v := ?_) rfl rfl (by kernel_rfl) (by kernel_rfl) (by kernel_rfl) (fun _ _ _ h => h) (Or.inl ⟨by rfl, ?hy9u35⟩) hHeld ?rest9u35
  case hy9u35 =>
    intro w' hS'
    go_simp
    try with_reducible rfl
  simp only [List.setIfInBounds_toArray, List.set_cons_zero, List.set_cons_succ]
  refine wpAnyH_ready (rs := [10]) (by kernel_rfl) (by simp) ?_
  refine AllReadyH.cons rfl (fun K hK => ?_) AllReadyH.nil
  go_simp
  refine (checkBlind_is n wd gp t sh T0 T1 true 0 Hc.out _).mono ?_
  rintro e W1 ⟨rfl, hb1⟩
  refine hK.out _ _ (hHeld.trans (hb1.mono hHeld.size)) (fun hHeld2 => ?_)
  clear hK K
  replace hHeld := hHeld2
  clear hHeld2
  clear hb1
  refine take_op (i := 11) (d := 8) (v := ?_) rfl rfl (by kernel_rfl) (by kernel_rfl) (by kernel_rfl) (fun _ _ _ h => h) (Or.inl ⟨by rfl, ?hy11u36⟩) hHeld ?rest11u36
  case hy11u36 =>
    intro w' hS'
    go_simp
    try with_reducible rfl
  simp only [List.setIfInBounds_toArray, List.set_cons_zero, List.set_cons_succ]
  refine wpAnyH_done (by kernel_rfl) ?_ _
  replace H0 := Lib.hid (below_row hHeld H0.out)
  replace H1 := Lib.hid (below_row hHeld H1.out)
  replace hb := hb.trans (hHeld.mono hb.size)
  clear hHeld
  go_wp2_with (first | (refine wpList_load_part rfl 37 _ rfl w.heap.size 0 5 rfl 37 (blindC n wd gp t sh) (0, 0) _ H0.out Try.underlying37 rfl info_blind (blind_fits _ _ _ _ _) _ (blind_all _ _ _ _ _) ?_) | (go_at_call 29; refine (HO.out _).mono ?_; rintro e W1 ⟨rfl, hb1⟩; replace H0 := Lib.hid (below_row hb1 H0.out); replace H1 := Lib.hid (below_row hb1 H1.out); replace hb := hb.trans (hb1.mono hb.size); clear hb1) | (refine wpList_store_part rfl 34 _ _ rfl b1 0 (f32s ys) rfl rfl 34 _ H1.out (by rw [f32s_size, HL.out]; exact info_floor) (by rw [f32s_size, f32s_size, HL.out]; decide) (f32s_one _) ?_; rw [laid_all _ _ (by rw [f32s_size, f32s_size, HL.out]; rfl)]))
  refine bodyPost_ret (results_floor rfl _ _ b1 ys HL.out rfl (setRow_heap _ _ _ _ _ _ H1.out)) rfl ?_
  exact ⟨rfl, below_setRow hb hb1s _⟩

set_option maxRecDepth 100000 in
set_option maxHeartbeats 2000000 in
theorem sFloor_bad (n : Int) (wd gp : Nat) (t : Int) (sh : Nat) (T0 : -32768 ≤ t) (T1 : t ≤ 32767) (N0 : -128 ≤ n) (N1 : n ≤ 127) (hk : okBl n wd gp t sh = false) (h : Int) (br : Nat) (w : World) :
    Calls Try.prog 10 #[.agg (blindC n wd gp t sh), .int .i64 h, .int .u32 (br : Int)] w fun e w' => e = .returned (.tuple #[.agg (f32s zerF), .int .i64 1]) ∧ Below w.heap.size w w' := by
  have HK := Lib.hid hk
  clear hk
  go_enter Try.func10, Try.ntmps10
  go_upto_region 1 with (fail)
  refine abs_code (fun W => W.heap[w.heap.size]? = some (.cells (blindC n wd gp t sh) 37 (0, 0)) ∧ W.heap[w.heap.size + 1]? = some (.cells (f32s zerF) 34 (0, 0)) ∧ Below w.heap.size w W) ⟨heap_alloc2_old _ _ _, heap_alloc2_new _ _ _, ((Below.refl _ _).alloc (Nat.le_refl _) _).alloc (by simp) _⟩ ?_
  rintro W ⟨h0, h1, hb⟩
  have hb1s : w.heap.size ≤ w.heap.size + 1 := by omega
  generalize w.heap.size + 1 = b1 at *
  have H0 := Lib.hid h0
  have H1 := Lib.hid h1
  clear h0 h1
  go_wp2_with (first | (go_at_call 21; refine (l02Ok_any n wd gp t sh T0 T1 N0 N1 _ 37 (0, 0) _ H0.out).mono ?_; rw [HK.out]; rintro e w' ⟨rfl, rfl⟩) | (refine wpList_store_part rfl 34 _ _ rfl b1 0 (f32s zerF) rfl rfl 34 _ H1.out info_zf (by decide) (f32s_one _) ?_; rw [laid_all _ _ (by rfl)]))
  refine bodyPost_ret (results_floor rfl _ _ b1 zerF zerF_length rfl (setRow_heap _ _ _ _ _ _ H1.out)) rfl ?_
  exact ⟨rfl, below_setRow hb hb1s _⟩

set_option maxRecDepth 100000 in
set_option maxHeartbeats 2000000 in
theorem sFloor_not (n : Int) (wd gp : Nat) (t : Int) (sh : Nat) (T0 : -32768 ≤ t) (T1 : t ≤ 32767) (N0 : -128 ≤ n) (N1 : n ≤ 127) (hk : okBl n wd gp t sh = true) (h : Int) (hi : inI 1 64 h = true) (br : Nat) (hft : fitB br n = false) (w : World) :
    Calls Try.prog 10 #[.agg (blindC n wd gp t sh), .int .i64 h, .int .u32 (br : Int)] w fun e w' => e = .returned (.tuple #[.agg (f32s zerF), .int .i64 2]) ∧ Below w.heap.size w w' := by
  have HK := Lib.hid hk
  have Hi := Lib.hid hi
  have HF := fit_spec br n
  rw [hft] at HF
  have hm0 := mB_le n
  have hm1 : 1 ≤ mB n := by
    have := (inI_get (by unfold okBl at hk; simp only [Bool.and_eq_true] at hk; exact hk.1.1.1.1 : inI 1 60 n = true)).1
    unfold mB; split <;> omega
  obtain ⟨M, hM⟩ := Int.eq_ofNat_of_zero_le (by omega : 0 ≤ mB n)
  rw [hM] at HF hm0 hm1
  rw [Int.toNat_natCast] at HF
  have HM := Lib.hid hM
  have z4 : IntKind.u64.wrap (M : Int) = (M : Int) := by rw [IntWalk.u64_in _ (by omega)]
  clear hft hM
  clear hk hi
  go_enter Try.func10, Try.ntmps10
  go_upto_region 1 with (fail)
  refine abs_code (fun W => W.heap[w.heap.size]? = some (.cells (blindC n wd gp t sh) 37 (0, 0)) ∧ W.heap[w.heap.size + 1]? = some (.cells (f32s zerF) 34 (0, 0)) ∧ Below w.heap.size w W) ⟨heap_alloc2_old _ _ _, heap_alloc2_new _ _ _, ((Below.refl _ _).alloc (Nat.le_refl _) _).alloc (by simp) _⟩ ?_
  rintro W ⟨h0, h1, hb⟩
  have hb1s : w.heap.size ≤ w.heap.size + 1 := by omega
  generalize w.heap.size + 1 = b1 at *
  have H0 := Lib.hid h0
  have H1 := Lib.hid h1
  clear h0 h1
  go_wp2_with (first | (go_at_call 21; refine (l02Ok_any n wd gp t sh T0 T1 N0 N1 _ 37 (0, 0) _ H0.out).mono ?_; rw [HK.out]; rintro e w' ⟨rfl, rfl⟩) | (go_at_call 22; refine (l07Looked_any n wd gp t sh N0 N1 _ 37 (0, 0) _ H0.out).mono ?_; rw [HM.out]; rintro e w' ⟨rfl, rfl⟩) | (go_at_call 23; refine (l02Up_is h true Hi.out _).mono ?_; rintro e w' ⟨rfl, rfl⟩) | (refine wpList_store_part rfl 34 _ _ rfl b1 0 (f32s zerF) rfl rfl 34 _ H1.out info_zf (by decide) (f32s_one _) ?_; rw [laid_all _ _ (by rfl)]))
  refine bodyPost_ret (results_floor rfl _ _ b1 zerF zerF_length rfl (setRow_heap _ _ _ _ _ _ H1.out)) rfl ?_
  exact ⟨rfl, below_setRow hb hb1s _⟩

set_option maxRecDepth 100000 in
set_option maxHeartbeats 2000000 in
theorem sFloor_nof (n : Int) (wd gp : Nat) (t : Int) (sh : Nat) (T0 : -32768 ≤ t) (T1 : t ≤ 32767) (N0 : -128 ≤ n) (N1 : n ≤ 127) (hk : okBl n wd gp t sh = true) (h : Int) (hi : inI 1 64 h = false) (br : Nat) (w : World) :
    Calls Try.prog 10 #[.agg (blindC n wd gp t sh), .int .i64 h, .int .u32 (br : Int)] w fun e w' => e = .returned (.tuple #[.agg (f32s zerF), .int .i64 2]) ∧ Below w.heap.size w w' := by
  have HK := Lib.hid hk
  have Hi := Lib.hid hi
  clear hk hi
  go_enter Try.func10, Try.ntmps10
  go_upto_region 1 with (fail)
  refine abs_code (fun W => W.heap[w.heap.size]? = some (.cells (blindC n wd gp t sh) 37 (0, 0)) ∧ W.heap[w.heap.size + 1]? = some (.cells (f32s zerF) 34 (0, 0)) ∧ Below w.heap.size w W) ⟨heap_alloc2_old _ _ _, heap_alloc2_new _ _ _, ((Below.refl _ _).alloc (Nat.le_refl _) _).alloc (by simp) _⟩ ?_
  rintro W ⟨h0, h1, hb⟩
  have hb1s : w.heap.size ≤ w.heap.size + 1 := by omega
  generalize w.heap.size + 1 = b1 at *
  have H0 := Lib.hid h0
  have H1 := Lib.hid h1
  clear h0 h1
  go_wp2_with (first | (go_at_call 21; refine (l02Ok_any n wd gp t sh T0 T1 N0 N1 _ 37 (0, 0) _ H0.out).mono ?_; rw [HK.out]; rintro e w' ⟨rfl, rfl⟩) | (go_at_call 22; refine (l07Looked_any n wd gp t sh N0 N1 _ 37 (0, 0) _ H0.out).mono ?_; rintro e w' ⟨rfl, rfl⟩) | (go_at_call 23; refine (l02Up_is h false Hi.out _).mono ?_; rintro e w' ⟨rfl, rfl⟩) | (refine wpList_store_part rfl 34 _ _ rfl b1 0 (f32s zerF) rfl rfl 34 _ H1.out info_zf (by decide) (f32s_one _) ?_; rw [laid_all _ _ (by rfl)]))
  refine bodyPost_ret (results_floor rfl _ _ b1 zerF zerF_length rfl (setRow_heap _ _ _ _ _ _ H1.out)) rfl ?_
  exact ⟨rfl, below_setRow hb hb1s _⟩

set_option maxRecDepth 100000 in
set_option maxHeartbeats 8000000 in
theorem sFloor_yes (n : Int) (wd gp : Nat) (t : Int) (sh : Nat) (T0 : -32768 ≤ t) (T1 : t ≤ 32767) (N0 : -128 ≤ n) (N1 : n ≤ 127) (ok : BlOk n wd gp t sh) (hk : okBl n wd gp t sh = true) (h : Int) (hi : inI 1 64 h = true) (br : Nat) (hft : fitB br n = true) (w : World) :
    Calls Try.prog 10 #[.agg (blindC n wd gp t sh), .int .i64 h, .int .u32 (br : Int)] w fun e w' => e = .returned (.tuple #[.agg (f32s (flB n wd gp t h br)), .int .i64 0]) ∧ Below w.heap.size w w' := by
  have HK := Lib.hid hk
  have Hi := Lib.hid hi
  have HF := fit_spec br n
  rw [hft] at HF
  have hm0 := mB_le n
  have hm1 : 1 ≤ mB n := by
    have := ok.1
    unfold mB; split <;> omega
  have HO1 : Hid (∀ (W W' : World), W'.heap[W.heap.size]? = some (.cells (blindC n wd gp t sh) 37 (0, 0)) → Calls Try.prog 24 #[.pointer (some ⟨W.heap.size, 0, none⟩), .int .i64 h] W' fun e w' => e = .returned (.float .f32 (opnB wd gp t h)) ∧ Below W'.heap.size W' w') := fun W W' hg => l02Open_any n wd gp t sh ok h (inI_get hi).1 (inI_get hi).2 W.heap.size 37 (0, 0) W' hg
  have HO2 := Lib.hid (fun w => l07Hanging_any n wd gp t sh ok h (inI_get hi).1 (inI_get hi).2 w)
  unfold flB
  obtain ⟨M, hM⟩ := Int.eq_ofNat_of_zero_le (by omega : 0 ≤ mB n)
  rw [hM] at HF hm0 hm1
  rw [hM]
  rw [Int.toNat_natCast] at HF
  rw [Int.toNat_natCast]
  have HM := Lib.hid hM
  have z4 : IntKind.u64.wrap (M : Int) = (M : Int) := by rw [IntWalk.u64_in _ (by omega)]
  clear hft hM ok hk hi
  generalize hwh : opnB wd gp t h = wh at *
  generalize hhg : opnB wd gp (hgT t) h = hg at *
  clear hwh hhg
  go_enter Try.func10, Try.ntmps10
  go_upto_region 1 with (fail)
  refine abs_code (fun W => W.heap[w.heap.size]? = some (.cells (blindC n wd gp t sh) 37 (0, 0)) ∧ W.heap[w.heap.size + 1]? = some (.cells (f32s zerF) 34 (0, 0)) ∧ Below w.heap.size w W) ⟨heap_alloc2_old _ _ _, heap_alloc2_new _ _ _, ((Below.refl _ _).alloc (Nat.le_refl _) _).alloc (by simp) _⟩ ?_
  rintro W ⟨h0, h1, hb⟩
  have hb1s : w.heap.size ≤ w.heap.size + 1 := by omega
  generalize w.heap.size + 1 = b1 at *
  have H0 := Lib.hid h0
  have H1 := Lib.hid h1
  clear h0 h1
  go_upto_region 6 with (first | (go_at_call 21; refine (l02Ok_any n wd gp t sh T0 T1 N0 N1 _ 37 (0, 0) _ H0.out).mono ?_; rw [HK.out]; rintro e w' ⟨rfl, rfl⟩) | (go_at_call 22; refine (l07Looked_any n wd gp t sh N0 N1 _ 37 (0, 0) _ H0.out).mono ?_; rw [HM.out]; rintro e w' ⟨rfl, rfl⟩) | (go_at_call 23; refine (l02Up_is h true Hi.out _).mono ?_; rintro e w' ⟨rfl, rfl⟩))
  go_upto_region 7 with (refine wpList_store_part rfl 34 _ _ rfl _ 0 (f32s zerF) rfl rfl 34 _ (heap_alloc_new _ _) info_zf (by decide) (f32s_one _) ?_; rw [laid_all _ _ (by rfl)])
  clear HF z4
  refine abs_code (fun V => V.heap[w.heap.size]? = some (.cells (blindC n wd gp t sh) 37 (0, 0)) ∧ V.heap[b1]? = some (.cells (f32s zerF) 34 (0, 0)) ∧ V.heap[W.heap.size]? = some (.cells (f32s zerF) 34 (0, 0)) ∧ Below w.heap.size w V) ⟨by rw [setRow_other _ _ _ _ (by have := row_lt H0.out; omega)]; exact heap_alloc_old H0.out, by rw [setRow_other _ _ _ _ (by have := row_lt H1.out; omega)]; exact heap_alloc_old H1.out, setRow_heap _ _ _ _ _ _ (heap_alloc_new _ _), below_setRow (hb.alloc hb.size _) hb.size _⟩ ?_
  have hbl := row_lt H1.out
  have hbk := row_lt H0.out
  have hWs := hb.size
  clear H0 H1 hb
  generalize hg1 : W.heap.size = g1 at *
  clear hg1
  rintro V ⟨h0, h1, h2, hb⟩
  go_upto_region 8 with (fail)
  go_loopw [10] (fun i wr => ∃ k : Nat, k ≤ M ∧ i = .int .i64 k ∧ wr.heap[w.heap.size]? = some (.cells (blindC n wd gp t sh) 37 (0, 0)) ∧ wr.heap[b1]? = some (.cells (f32s zerF) 34 (0, 0)) ∧ wr.heap[g1]? = some (.cells (f32s (flK (flP wh hg br M) k)) 34 (0, 0)) ∧ Below w.heap.size w wr) (fun i _ => M - (intOf i).toNat)
  case atStart => exact ⟨0, Nat.zero_le _, rfl, h0, h1, h2, hb⟩
  case round =>
    clear h0 h1 h2 hb
    obtain ⟨k, hk, rfl, h0, h1, h2, hb⟩ := hrel
    by_cases hlt : k < M
    · have z1 : (k : Int) < (M : Int) := by omega
      have z2 : (0 : Int) ≤ (k : Int) := by omega
      have z3 : (k : Int) < 24 := by omega
      have z5 : (k : Int) ≤ 32 := by omega
      have z4 : IntKind.u64.wrap (k : Int) = (k : Int) := by rw [IntWalk.u64_in _ (by omega)]
      have B1 := bit_spec br k
      have hl2 := flK_len (flP wh hg br M) (by omega : k ≤ 24)
      have H0 := Lib.hid h0
      have H1 := Lib.hid h1
      have hst := Lib.hid (flK_set (flP wh hg br M) (by omega : k < 24))
      have HL := Lib.hid hl2
      have hHP : flP wh hg br M k = if br.testBit k then hg else wh := if_pos hlt
      have HP := Lib.hid hHP
      have HO3 : Hid (∀ W', Below wr.heap.size wr W' → Calls Try.prog 24 #[.pointer (some ⟨w.heap.size, 0, none⟩), .int .i64 h] W' fun e w' => e = .returned (.float .f32 wh) ∧ Below W'.heap.size W' w') := fun W' hb' => HO1.out w W' (below_row hb' H0.out)
      have H2 := Lib.hid h2
      clear h0 h1 h2 hl2 hHP
      go_upto_region 11 with (go_at_call 24; refine (HO3.out _ (Below.refl _ _)).mono ?_; rintro e W1 ⟨rfl, hb1⟩; replace H0 := Lib.hid (below_row hb1 H0.out); replace H1 := Lib.hid (below_row hb1 H1.out); replace H2 := Lib.hid (below_row hb1 H2.out); replace hb := hb.trans (hb1.mono hb.size); clear hb1 HO3; have hd := cell_of_f32s H2.out k (by rw [HL.out]; omega); have hf := frozen_of_row _ g1 k _ _ H2.out)
      clear hd hf
      refine abs_code (fun V => V.heap[w.heap.size]? = some (.cells (blindC n wd gp t sh) 37 (0, 0)) ∧ V.heap[b1]? = some (.cells (f32s zerF) 34 (0, 0)) ∧ V.heap[g1]? = some (.cells (f32s ((flK (flP wh hg br M) k).set k wh)) 34 (0, 0)) ∧ Below w.heap.size w V) ⟨by rw [heap_setCell_other _ _ _ _ (by simp; omega)]; exact H0.out, by rw [heap_setCell_other _ _ _ _ (by simp; omega)]; exact H1.out, by rw [heap_setCell_same _ _ _ _ _ _ H2.out, f32s_set], hb.setCell (by simp; omega) _⟩ ?_
      clear H0 H1 H2 hb
      rintro U ⟨h0, h1, h2, hb⟩
      have H0 := Lib.hid h0
      have H1 := Lib.hid h1
      have H2 := Lib.hid h2
      clear h0 h1 h2
      rcases hbr : br.testBit k with _ | _
      · rw [hbr] at B1
        have hv : flP wh hg br M k = wh := by rw [HP.out, hbr]; rfl
        rw [hv] at hst
        have HV := Lib.hid hbr
        clear hbr hv
        go_wp2
        go_roundw
        case rel => exact ⟨k + 1, by omega, by go_num, H0.out, H1.out, by rw [← hst.out]; exact H2.out, hb⟩
        case measure => simp [intOf]; omega
      · rw [hbr] at B1
        have hv : flP wh hg br M k = hg := by rw [HP.out, hbr]; rfl
        rw [hv] at hst
        have HV := Lib.hid hbr
        clear hbr hv
        go_wp2_with (first | (refine wpList_load_part rfl 37 _ rfl w.heap.size 0 5 rfl 37 (blindC n wd gp t sh) (0, 0) _ H0.out Try.underlying37 rfl info_blind (blind_fits _ _ _ _ _) _ (blind_all _ _ _ _ _) ?_) | (go_at_call 25; refine (HO2.out _).mono ?_; rintro e W2 ⟨rfl, hb1⟩; replace H0 := Lib.hid (below_row hb1 H0.out); replace H1 := Lib.hid (below_row hb1 H1.out); replace H2 := Lib.hid (below_row hb1 H2.out); replace hb := hb.trans (hb1.mono hb.size); clear hb1; have hd := cell_of_f32s H2.out k (by rw [List.length_set, HL.out]; omega); have hf := frozen_of_row _ g1 k _ _ H2.out))
        go_roundw
        case rel => exact ⟨k + 1, by omega, by go_num, by rw [heap_setCell_other _ _ _ _ (by simp; omega)]; exact H0.out, by rw [heap_setCell_other _ _ _ _ (by simp; omega)]; exact H1.out, by rw [heap_setCell_same _ _ _ _ _ _ H2.out, f32s_set, List.set_set, hst.out], hb.setCell (by simp; omega) _⟩
        case measure => simp [intOf]; omega
    · obtain rfl : k = M := by omega
      have hend : flK (flP wh hg br k) k = flK (flP wh hg br k) 24 := flK_end k (by omega)
      rw [hend] at h2
      have hm := flK_len (flP wh hg br k) (Nat.le_refl 24)
      generalize hys : flK (flP wh hg br k) 24 = ys at *
      have HY := Lib.hid hys
      have Hm := Lib.hid hm
      have H2 := Lib.hid h2
      have H1 := Lib.hid h1
      have z1 : ¬ (k : Int) < (k : Int) := by omega
      clear h0 h1 h2 hm hlt hk hys hend
      go_wp2_with (first | (refine wpList_load_part rfl 34 _ rfl _ _ 24 rfl _ _ _ _ H2.out Try.underlying34 rfl info_floor (by rw [f32s_size, Hm.out]; decide) _ (f32s_all _ 24 Hm.out) ?_) | (refine wpList_store_part rfl 34 _ _ rfl _ _ _ rfl rfl _ _ H1.out (by rw [f32s_size, Hm.out]; exact info_floor) (by rw [f32s_size, f32s_size, Hm.out]; decide) (f32s_one _) ?_; rw [laid_all _ _ (by rw [f32s_size, f32s_size, Hm.out]; rfl)]))
      refine bodyPost_ret (results_floor rfl _ _ b1 ys Hm.out rfl (setRow_heap _ _ _ _ _ _ H1.out)) rfl ?_
      exact ⟨by rw [← HY.out]; rfl, below_setRow hb hb1s _⟩

set_option maxRecDepth 100000 in
set_option maxHeartbeats 4000000 in
theorem eqFloor_any (xs : List Nat) (hx : xs.length = 24) (hv : ∀ x ∈ xs, fin32 x = true) (w : World) :
    Calls Try.prog 13 #[.agg (f32s xs), .agg (f32s xs)] w fun e w' => e = .returned (.bool true) ∧ Below w.heap.size w w' := by
  have Hx := Lib.hid hx
  have HVs := Lib.hid hv
  clear hx hv
  go_enter Try.func13, Try.ntmps13
  go_upto_region 1 with (fail)
  refine abs_code (fun W => W.heap[w.heap.size]? = some (.cells (f32s xs) 34 (0, 0)) ∧ W.heap[w.heap.size + 1]? = some (.cells (f32s xs) 34 (0, 0)) ∧ Below w.heap.size w W) ⟨heap_alloc2_old _ _ _, heap_alloc2_new _ _ _, ((Below.refl _ _).alloc (Nat.le_refl _) _).alloc (by simp) _⟩ ?_
  rintro W ⟨h0, h1, hb⟩
  generalize w.heap.size + 1 = b1 at *
  go_upto_region 2 with (fail)
  go_loopw [5] (fun i wr => ∃ k : Nat, k ≤ 24 ∧ i = .int .i64 k ∧ wr.heap[w.heap.size]? = some (.cells (f32s xs) 34 (0, 0)) ∧ wr.heap[b1]? = some (.cells (f32s xs) 34 (0, 0)) ∧ Below w.heap.size w wr) (fun i _ => 24 - (intOf i).toNat)
  case atStart => exact ⟨0, Nat.zero_le _, rfl, h0, h1, hb⟩
  case round =>
    clear h0 h1 hb
    obtain ⟨k, hk, rfl, h0, h1, hb⟩ := hrel
    by_cases hlt : k < 24
    · have ex : xs[k]? = some (xs[k]'(by rw [Hx.out]; exact hlt)) := List.getElem?_eq_getElem _
      have EX : Hid (xs[k]?.getD 0 = (xs[k]'(by rw [Hx.out]; exact hlt))) := by rw [ex]; rfl
      have hv := HVs.out _ (List.mem_of_getElem? ex)
      generalize (xs[k]'(by rw [Hx.out]; exact hlt)) = x at *
      have hw0 := run_wide _ hv
      have HV := Lib.hid hv
      have H0 := Lib.hid h0
      have H1 := Lib.hid h1
      have z1 : (k : Int) < 24 := by omega
      have z2 : (0 : Int) ≤ (k : Int) := by omega
      clear h0 h1 ex hv
      go_wp2
      refine wp_region_held_drew (S := (fun W => W.heap[w.heap.size]? = some (.cells (f32s xs) 34 (0, 0)) ∧ W.heap[b1]? = some (.cells (f32s xs) 34 (0, 0)) ∧ Below w.heap.size w W)) (by kernel_rfl) ⟨H0.out, H1.out, hb.drew⟩ (fun hHeld => ?_)
      refine take_op (i := 0) (d := 10) (v := ?_) rfl rfl (by kernel_rfl) (by kernel_rfl) (by kernel_rfl) (fun _ _ _ h => h) (Or.inl ⟨by rfl, ?hy0u37⟩) hHeld ?rest0u37
      case hy0u37 =>
        intro w' hS'
        go_simp
        try with_reducible rfl
      simp only [List.setIfInBounds_toArray, List.set_cons_zero, List.set_cons_succ]
      refine take_op (i := 1) (d := 11) (v := ?_) rfl rfl (by kernel_rfl) (by kernel_rfl) (by kernel_rfl) (fun _ _ _ h => h) (Or.inl ⟨by rfl, ?hy1u38⟩) hHeld ?rest1u38
      case hy1u38 =>
        intro w' hS'
        go_simp
        try with_reducible rfl
      simp only [List.setIfInBounds_toArray, List.set_cons_zero, List.set_cons_succ]
      refine take_op (i := 2) (d := 12) (v := ?_) rfl rfl (by kernel_rfl) (by kernel_rfl) (by kernel_rfl) (fun _ _ _ h => h) (Or.inl ⟨by rfl, ?hy2u39⟩) hHeld ?rest2u39
      case hy2u39 =>
        intro w' hS'
        obtain ⟨s1, s2, _⟩ := hS'
        have q1 := cell_of_f32s s1 k (by rw [Hx.out]; exact hlt)
        have q2 := cell_of_f32s s2 k (by rw [Hx.out]; exact hlt)
        rw [EX.out] at q1 q2
        clear s1 s2
        go_simp
        try with_reducible rfl
      simp only [List.setIfInBounds_toArray, List.set_cons_zero, List.set_cons_succ]
      refine take_op (i := 3) (d := 13) (v := ?_) rfl rfl (by kernel_rfl) (by kernel_rfl) (by kernel_rfl) (fun _ _ _ h => h) (Or.inl ⟨by rfl, ?hy3u40⟩) hHeld ?rest3u40
      case hy3u40 =>
        intro w' hS'
        go_simp
        try with_reducible rfl
      simp only [List.setIfInBounds_toArray, List.set_cons_zero, List.set_cons_succ]
      refine take_op (i := 4) (d := 14) (v := ?_) rfl rfl (by kernel_rfl) (by kernel_rfl) (by kernel_rfl) (fun _ _ _ h => h) (Or.inl ⟨by rfl, ?hy4u41⟩) hHeld ?rest4u41
      case hy4u41 =>
        intro w' hS'
        go_simp
        try with_reducible rfl
      simp only [List.setIfInBounds_toArray, List.set_cons_zero, List.set_cons_succ]
      refine take_op (i := 5) (d := 15) (v := ?_) rfl rfl (by kernel_rfl) (by kernel_rfl) (by kernel_rfl) (fun _ _ _ h => h) (Or.inl ⟨by rfl, ?hy5u42⟩) hHeld ?rest5u42
      case hy5u42 =>
        intro w' hS'
        go_simp
        try with_reducible rfl
      simp only [List.setIfInBounds_toArray, List.set_cons_zero, List.set_cons_succ]
      refine take_op (i := 6) (d := 16) (v := ?_) rfl rfl (by kernel_rfl) (by kernel_rfl) (by kernel_rfl) (fun _ _ _ h => h) (Or.inl ⟨by rfl, ?hy6u43⟩) hHeld ?rest6u43
      case hy6u43 =>
        intro w' hS'
        obtain ⟨s1, s2, _⟩ := hS'
        have q1 := cell_of_f32s s1 k (by rw [Hx.out]; exact hlt)
        have q2 := cell_of_f32s s2 k (by rw [Hx.out]; exact hlt)
        rw [EX.out] at q1 q2
        clear s1 s2
        go_simp
        try with_reducible rfl
      simp only [List.setIfInBounds_toArray, List.set_cons_zero, List.set_cons_succ]
      refine take_op (i := 7) (d := 17) (v := ?_) rfl rfl (by kernel_rfl) (by kernel_rfl) (by kernel_rfl) (fun _ _ _ h => h) (Or.inl ⟨by rfl, ?hy7u44⟩) hHeld ?rest7u44
      case hy7u44 =>
        intro w' hS'
        go_simp
        try with_reducible rfl
      simp only [List.setIfInBounds_toArray, List.set_cons_zero, List.set_cons_succ]
      refine wpAnyH_ready (rs := [8]) (by kernel_rfl) (by simp) ?_
      refine AllReadyH.cons rfl (fun K hK => ?_) AllReadyH.nil
      go_simp
      refine (same_wide _ HV.out _).mono ?_
      rintro e w1 ⟨rfl, rfl⟩
      refine hK.out _ _ (hHeld) (fun hHeld2 => ?_)
      clear hK K
      replace hHeld := hHeld2
      clear hHeld2
      refine take_op (i := 9) (d := 19) (v := ?_) rfl rfl (by kernel_rfl) (by kernel_rfl) (by kernel_rfl) (fun _ _ _ h => h) (Or.inl ⟨by rfl, ?hy9u45⟩) hHeld ?rest9u45
      case hy9u45 =>
        intro w' hS'
        go_simp
        try with_reducible rfl
      simp only [List.setIfInBounds_toArray, List.set_cons_zero, List.set_cons_succ]
      refine wpAnyH_done (by kernel_rfl) ?_ _
      obtain ⟨d0, d1, hbx⟩ := hHeld
      clear H0 H1 hb
      go_wp2
      go_roundw
      case rel => exact ⟨k + 1, by omega, by go_num, d0, d1, hbx⟩
      case measure => simp [intOf]; omega
    · obtain rfl : k = 24 := by omega
      clear h0 h1
      go_wp2
      go_ret
      exact ⟨rfl, hb⟩

end Go.Proofs.Ytdbleddcnknmiaa
