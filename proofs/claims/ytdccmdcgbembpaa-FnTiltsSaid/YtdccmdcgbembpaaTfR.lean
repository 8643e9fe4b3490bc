/-
  The tilt that passes nearest to what is wanted: the program's walk.
-/
import Derived.Test.YtdccmdcgbembpaaTfE
import Derived.Test.YtdccmdcgbembpaaWhere
import Derived.Test.YtdccmdcgbembpaaRound
import Derived.Test.YtdccmdcgbembpaaNearB
import Derived.Test.YtdccmdcgbembpaaMapAny
import Derived.Test.YtdccmdcgbembpaaPasser
namespace Go.Proofs.Ytdccmdcgbembpaa
open Go.ChangeShapes Go.WideShapes Go.ChangeAt Go.RowKit Go.Deep Go.Joins Go.Shelf Go.ChangeMaps Go.MapKept

attribute [local go_sem] run_store_f

theorem grown_setBlockT {w : World} {b : Nat} {es : Array MapEntry} {clock : Nat} (hb : w.heap[b]? = some (.map es clock)) (o : Obj) : w.grownBy (setBlock w b o) (some b) :=
  ⟨rfl, rfl, rfl, by simp [setBlock], fun i _ hi => heap_setBlock_other hb _ (fun e => hi (by rw [e]))⟩
theorem owns_bT {W w1 : World} {base s k : Nat} {e : TypeId} {v : Value} {xs : List Value} (h : W.ownsRow base e s v k xs) (hb : Below W.heap.size W w1) : w1.ownsRow base e s v k xs :=
  h.kept (row := none) ⟨hb.os, hb.tape, hb.output, hb.size, fun k hk _ => hb.block k hk⟩ (by cases v.ownBlock <;> simp)
theorem keep_appT {W w1 : World} {g : Nat} {o tmp : Obj} {v : Value} (h : W.heap[g]? = some o) (hne : some g ≠ v.ownBlock) (hg : (W.alloc tmp).grownBy w1 v.ownBlock) : w1.heap[g]? = some o := by
  have h1 : (W.alloc tmp).heap[g]? = some o := below_row ((Below.refl W.heap.size W).alloc (Nat.le_refl _) _) h
  exact (hg.block g (row_lt h1) hne).trans h1
theorem ne_objT {W : World} {a b : Nat} {o1 o2 : Obj} (h1 : W.heap[a]? = some o1) (h2 : W.heap[b]? = some o2) (ho : o1 ≠ o2) : a ≠ b := fun e => ho (by subst e; rw [h1] at h2; exact Option.some.inj h2)
theorem ownsRow_succT {W : World} {base s k : Nat} {e : TypeId} {v : Value} {xs : List Value} (h : W.ownsRow base e s v (k + 1) xs) : ∃ g cap, v = .slice (some ⟨g, 0, none⟩) (k + 1) cap := by
  rcases h.2 with ⟨_, hz⟩ | ⟨g, cap, cur, hv, _⟩
  · omega
  · exact ⟨g, cap, hv⟩
theorem bitsC_fits (n : Int) (wd gp : Nat) (t : Int) (sh : Nat) : 0 + 5 ≤ (bitsC n wd gp t sh).size := Nat.le_refl _
theorem bitsC_all (n : Int) (wd gp : Nat) (t : Int) (sh : Nat) : (bitsC n wd gp t sh).extract 0 (0 + 5) = bitsC n wd gp t sh := rfl
theorem bitsC_one (n : Int) (wd gp : Nat) (t : Int) (sh : Nat) : ∀ v ∈ bitsC n wd gp t sh, v.oneCell' = true := by
  intro v hv
  simp only [bitsC, List.mem_toArray, List.mem_cons, List.not_mem_nil, or_false] at hv
  rcases hv with rfl | rfl | rfl | rfl | rfl <;> rfl
theorem nbits_ltT {x : Nat} (h : (Lit.float .f32 x).wf = true) : nbits x < 4294967296 := by
  have hx : x < 4294967296 := by simpa [Lit.wf] using h
  unfold nbits
  split <;> omega
theorem arrT : Try.prog.follows .mixedOrders = true := by kernel_rfl
theorem wp_onlyT {P : Program} {c : Code} {K : Act → World → Prop} {Q : Exit → Act → World → Prop} {a : Act} {w : World} (h : c.wp P (Exit.then K (fun _ _ _ => False)) a w) : c.wp P (Exit.then K Q) a w := wp_onlyL h
def flatB (n : Int) (wd gp sh : Nat) (pre : List Tl) : List Value := pre.flatMap (fun x => (bitsC n wd gp x.1 sh).toList)
theorem flatB_snoc (n : Int) (wd gp sh : Nat) (pre : List Tl) (x : Tl) : flatB n wd gp sh (pre ++ [x]) = flatB n wd gp sh pre ++ (bitsC n wd gp x.1 sh).toList := by simp [flatB]
theorem flatB_tls (n : Int) (wd gp sh : Nat) : ∀ k, k ≤ 129 → flatB n wd gp sh (tls k) = flat k (kBB n (nbits wd) (nbits gp) (nbits sh))
  | 0, _ => rfl
  | k + 1, h => by
    rw [tls_succ, flatB_snoc, flat_succ, flatB_tls n wd gp sh k (by omega), tl_val k (by omega)]
    rfl
/-- What the walk over the tilts keeps. -/
def TfI (n : Int) (wd gp : Nat) (t : Int) (sh : Nat) (h : Int) (w : World) (b4 b10 b11 mb gb : Nat) (pre : List Tl) (W : World) : Prop :=
  (∃ v, Boxed W b10 55 v ∧ W.ownsRow w.heap.size 61 5 v pre.length (flatB n wd gp sh pre) ∧ True) ∧ Boxed W b11 56 (.map (some mb)) ∧ Boxed W b4 2 (.int .i64 h) ∧
  (∃ es ck, W.heap[mb]? = some (.map es ck) ∧ (∀ y ∈ es.toList, ∃ l, keyOf Try.prog 61 y.key = some l) ∧ (pre.length ≤ 129 → pre = tls pre.length → es = ents pre.length (kBB n (nbits wd) (nbits gp) (nbits sh)) (pT wd gp sh h) ∧ ck = pre.length)) ∧
  W.heap[gb]? = some (.cells (blindC n wd gp t sh) 28 (0, 0)) ∧ Below w.heap.size w W
theorem tfI_own (n : Int) (wd gp : Nat) (t : Int) (sh : Nat) (h : Int) (w : World) (b4 b10 b11 mb gb B : Nat) (hB : w.heap.size ≤ B) (hm : mb < B) : OwnFrom B (TfI n wd gp t sh h w b4 b10 b11 mb gb) := by
  intro s W W' row ⟨h1, h2, h3, ⟨es, ck, h4, h5, h6⟩, h7, h8⟩ hg' hr
  have hr2 := fun r e => (hr r e).2
  exact ⟨Go.holdsRow_own w.heap.size b10 55 61 5 (fun pre => pre.length) (fun pre => flatB n wd gp sh pre) (fun _ _ => True) s W W' row h1 hg' hr2, boxed_own (β := Unit) b11 56 (fun _ => .map (some mb)) () W W' row h2 hg' hr2, boxed_own (β := Unit) b4 2 (fun _ => .int .i64 h) () W W' row h3 hg' hr2,
    ⟨es, ck, (hg'.block mb (row_lt h4) (fun e => by have := (hr mb e.symm).1; omega)).trans h4, h5, h6⟩, heap_keptW h7 hg' hr2, ownFrom_below (β := Unit) (Nat.le_refl _) hB () W W' row h8 hg' hr⟩
theorem info_bb : (Try.prog.info? 61).map (fun i => (i.zero, i.size, i.bytes)) = some (some (.agg #[.int .i8 0, .int .u32 0, .int .u32 0, .int .i16 0, .int .u32 0]), 5, 20) := by kernel_rfl

set_option maxRecDepth 100000 in
set_option maxHeartbeats 8000000 in
theorem iTF_yes (n : Int) (wd gp : Nat) (t : Int) (sh : Nat) (bw : BlWf n wd gp t sh) (h : Int) (want : Nat) (hww : (Lit.float .f32 want).wf = true) (w : World) (hk : okBl n wd gp t sh = true) (hi : inI 1 64 h = true) (hp : partB want = true) :
    Calls Try.prog 8 #[.agg (blindC n wd gp t sh), .int .i64 h, .float .f32 want] w fun e w' => e = .returned (.tuple #[.int .i64 ((firstMin (dT wd gp sh h want) 128 : Nat) - 64 : Int), .float .f32 (pT wd gp sh h (firstMin (dT wd gp sh h want) 128)), .int .i64 0]) ∧ Below w.heap.size w w' := by
  refine (callsIn_wide (n := 4)).1 ?_
  obtain ⟨i0, hin, hz0, hz1, hz2⟩ := info_parts info_bb
  obtain ⟨T0, T1⟩ := blwf_t bw
  obtain ⟨h0, h1⟩ := inI_get hi
  have OK := blok_of bw hk
  have WP : PartOk want := part_get hww hp
  have Hc : Hid (codeC (okBl n wd gp t sh) true = 0) := by rw [hk]; rfl
  have Hi := Lib.hid hi
  have Hp := Lib.hid hp
  have HPs := Lib.hid (fun (x : Int) (x0 : -64 ≤ x) (x1 : x ≤ 64) => And.intro (fun w => passer_any n wd gp x sh (blok_tiltT n wd gp t sh OK x0 x1) w) (fun g1 g2 w c1 c2 => passes_call n wd gp x sh (blok_tiltT n wd gp t sh OK x0 x1) g1 g2 h h0 h1 w c1 c2))
  have HKy := Lib.hid (kB_keys n (nbits wd) (nbits gp) (nbits sh) bw.1 (nbits_ltT bw.2.1) (nbits_ltT bw.2.2.1) (nbits_ltT bw.2.2.2.2))
  have HKx : Hid (∀ x : Int, -64 ≤ x → x ≤ 64 → ∃ l, keyOf Try.prog 61 (.agg (bitsC n wd gp x sh)) = some l) := by
    intro x x0 x1
    have hk := (kB_keys n (nbits wd) (nbits gp) (nbits sh) bw.1 (nbits_ltT bw.2.1) (nbits_ltT bw.2.2.1) (nbits_ltT bw.2.2.2.2)).key (x + 64).toNat (by omega)
    have e : kBB n (nbits wd) (nbits gp) (nbits sh) (x + 64).toNat = bitsC n wd gp x sh := by unfold kBB bitsC; rw [show (((x + 64).toNat : Nat) : Int) - 64 = x by omega]
    rw [e] at hk
    exact hk
  have HNs := Lib.hid (fun (i : Nat) (_ : i < 129) => dT_sub wd gp OK.2.2.2.2.2.2.2.2 h WP ((i : Int) - 64))
  have hmm := @run_makeMap Try.prog
  clear OK WP h0 h1 hk hi hp bw hww
  refine callsIn_of_wp_marks Try.func8 rfl trivial ?_ rfl
  simp only [Try.ntmps8, List.size_toArray, List.length_cons, List.length_nil, Nat.reduceAdd, Nat.reduceSub, Array.replicate_succ, Array.replicate_zero, List.push_toArray, List.append_toArray, List.nil_append, List.cons_append]
  refine wpIn_wide.2 ?_
  go_upto_region 1 with (fail)
  refine abs_world (fun W => W.heap[w.heap.size]? = some (.cells (blindC n wd gp t sh) 28 (0, 0)) ∧ W.heap[w.heap.size + 1]? = some (.cells #[.int .i64 h] 2 (0, 0)) ∧ Below w.heap.size w W) (two_at w (.cells (blindC n wd gp t sh) 28) (.cells #[.int .i64 h] 2)) ?_
  rintro W ⟨d1, d2, hb⟩
  generalize w.heap.size + 1 = b4 at *
  refine wp_onlyT ?_
  refine wp_region_held_drew (S := (fun W => W.heap[w.heap.size]? = some (.cells (blindC n wd gp t sh) 28 (0, 0)) ∧ W.heap[b4]? = some (.cells #[.int .i64 h] 2 (0, 0)) ∧ Below w.heap.size w W)) (by kernel_rfl) ⟨d1, d2, hb.drew⟩ (fun hHeld => ?_)
  refine take_op (i := 0) (d := 15) (v := .agg (blindC n wd gp t sh)) rfl rfl (by kernel_rfl) (by kernel_rfl) (by kernel_rfl) (fun _ _ _ h => h) (yields_row (by rfl) 28 (.tmp 3) (by rfl) w.heap.size 0 5 (by rfl) 28 (blindC n wd gp t sh) (0, 0) _ (fun _ h => h.1) Try.underlying28 rfl info_blind (blind_fits _ _ _ _ _) (blindC n wd gp t sh) (blind_all _ _ _ _ _)) hHeld ?_
  simp only [List.setIfInBounds_toArray, List.set_cons_zero, List.set_cons_succ]
  refine take_op (i := 1) (d := 16) (v := ?_) rfl rfl (by kernel_rfl) (by kernel_rfl) (by kernel_rfl) (fun _ _ _ h => h) (Or.inl ⟨by rfl, ?hy1u20⟩) hHeld ?rest1u20
  case hy1u20 =>
    intro w' hS'
    obtain ⟨s1, s2, _⟩ := hS'
    have k2 : w'.cell? ⟨b4, 0, none⟩ = some (.int .i64 h) := by rw [cell_of_row w' _ _ _ _ _ s2]; rfl
    clear s1 s2
    go_simp
    try with_reducible rfl
  simp only [List.setIfInBounds_toArray, List.set_cons_zero, List.set_cons_succ]
  refine wpAnyH_ready (rs := [2]) (by kernel_rfl) (by simp) ?_
  refine AllReadyH.cons rfl (fun K hK => ?_) AllReadyH.nil
  go_simp
  refine (isHeight_is h true Hi.out _).mono ?_
  rintro e w' ⟨rfl, rfl⟩
  refine hK.out _ _ (hHeld) (fun hHeld2 => ?_)
  clear hK K
  replace hHeld := hHeld2
  clear hHeld2
  refine take_op (i := 3) (d := 18) (v := ?_) rfl rfl (by kernel_rfl) (by kernel_rfl) (by kernel_rfl) (fun _ _ _ h => h) (Or.inl ⟨by rfl, ?hy3u21⟩) hHeld ?rest3u21
  case hy3u21 =>
    intro w' hS'
    go_simp
    try with_reducible rfl
  simp only [List.setIfInBounds_toArray, List.set_cons_zero, List.set_cons_succ]
  refine take_op (i := 4) (d := 19) (v := ?_) rfl rfl (by kernel_rfl) (by kernel_rfl) (by kernel_rfl) (fun _ _ _ h => h) (Or.inl ⟨by rfl, ?hy4u22⟩) hHeld ?rest4u22
  case hy4u22 =>
    intro w' hS'
    go_simp
    try with_reducible rfl
  simp only [List.setIfInBounds_toArray, List.set_cons_zero, List.set_cons_succ]
  refine wpAnyH_ready (rs := [5]) (by kernel_rfl) (by simp) ?_
  refine AllReadyH.cons rfl (fun K hK => ?_) AllReadyH.nil
  go_simp
  refine (isPart_iT want true Hp.out _).mono ?_
  rintro e w' ⟨rfl, rfl⟩
  refine hK.out _ _ (hHeld) (fun hHeld2 => ?_)
  clear hK K
  replace hHeld := hHeld2
  clear hHeld2
  refine take_op (i := 6) (d := 21) (v := ?_) rfl rfl (by kernel_rfl) (by kernel_rfl) (by kernel_rfl) (fun _ _ _ h => h) (Or.inl ⟨by rfl, ?hy6u23⟩) hHeld ?rest6u23
  case hy6u23 =>
    intro w' hS'
    go_simp
    try with_reducible rfl
  simp only [List.setIfInBounds_toArray, List.set_cons_zero, List.set_cons_succ]
  refine wpAnyH_ready (rs := [7]) (by kernel_rfl) (by simp) ?_
  refine AllReadyH.cons rfl (fun K hK => ?_) AllReadyH.nil
  go_simp
  refine (checkBlind_is n wd gp t sh T0 T1 true 0 Hc.out _).mono ?_
  rintro e W1 ⟨rfl, hb1⟩
  refine hK.out _ _ (⟨below_row hb1 hHeld.1, below_row hb1 hHeld.2.1, hHeld.2.2.trans (hb1.mono hHeld.2.2.size)⟩) (fun hHeld2 => ?_)
  clear hK K
  replace hHeld := hHeld2
  clear hHeld2
  refine take_op (i := 8) (d := 9) (v := ?_) rfl rfl (by kernel_rfl) (by kernel_rfl) (by kernel_rfl) (fun _ _ _ h => h) (Or.inl ⟨by rfl, ?hy8u24⟩) hHeld ?rest8u24
  case hy8u24 =>
    intro w' hS'
    go_simp
    try with_reducible rfl
  simp only [List.setIfInBounds_toArray, List.set_cons_zero, List.set_cons_succ]
  refine wpAnyH_done (by kernel_rfl) ?_ _
  obtain ⟨c1, c2, hbx⟩ := hHeld
  clear d1 d2 hb
  have hl2 := row_lt c2
  have C1 := Lib.hid c1
  have C2 := Lib.hid c2
  clear c1 c2
  go_upto_region 6 with (fail)
  refine abs_world (fun V => Boxed V W1.heap.size 55 (.slice none 0 0) ∧ V.heap[W1.heap.size + 1]? = some (.map #[] 0) ∧ Boxed V (W1.heap.size + 1 + 1) 56 (.map (some (W1.heap.size + 1))) ∧ Below W1.heap.size W1 V) (three_at W1 (.cells #[.slice none 0 0] 55) (.map #[] 0) (.cells #[.map (some (W1.heap.size + 1))] 56)) ?_
  rintro V ⟨e1, e2, e3, hbv⟩
  replace C1 := Lib.hid (below_row hbv C1.out)
  replace C2 := Lib.hid (below_row hbv C2.out)
  have hb := hbx.trans (hbv.mono hbx.size)
  have hle0 : w.heap.size ≤ W1.heap.size := hbx.size
  have hle1 : w.heap.size ≤ W1.heap.size + 1 := by omega
  have hle2 : w.heap.size ≤ W1.heap.size + 1 + 1 := by omega
  have hne01 : W1.heap.size ≠ W1.heap.size + 1 := by omega
  have hlm := row_lt e2
  clear hbx hbv hl2
  generalize W1.heap.size + 1 + 1 = b11 at *
  generalize W1.heap.size + 1 = mb at *
  generalize W1.heap.size = b10 at *
  go_wp2_with (first | (refine wpList_load_part rfl 28 _ rfl w.heap.size 0 5 rfl 28 (blindC n wd gp t sh) (0, 0) _ C1.out Try.underlying28 rfl info_blind (blind_fits _ _ _ _ _) _ (blind_all _ _ _ _ _) ?_) | (go_at_call 29; refine (eachTilted_any _ _ _ _ _ _).mono ?_; rintro e w' ⟨rfl, rfl⟩))
  refine (wpIn_wide (n := 4)).1 ?_
  have hgl : w.heap.size ≤ V.heap.size := hb.size
  refine wpIn_rangeFunc_ownH rfl (by decide) (gf := 52) (lb := #[.pointer (some ⟨V.heap.size, 0, none⟩)]) rfl trivial (enters_of Try.func52 (by kernel_rfl) rfl)
    (eachTilted_stops n wd gp t sh V.heap.size _ (heap_alloc_new _ _)) keepsAt_t (keepsAt_b (by simp)) (Below.refl _ _) (fun _ => rfl)
    (TfI n wd gp t sh h w b4 b10 b11 mb V.heap.size) (fun _ _ _ => False) (tfI_own _ _ _ _ _ _ _ _ _ _ _ _ _ (by simp; omega) (by simp; omega)) (fun _ _ _ _ _ hs _ _ => hs) ?h0
    (fun x a' U => ∃ b12 : Nat, a' = { tmps := #[.agg (blindC n wd gp t sh), .int .i64 h, .float .f32 want, .pointer (some ⟨w.heap.size, 0, none⟩), .pointer (some ⟨b4, 0, none⟩), undef, .int .i64 0, .float .f32 0, .int .i64 0, .int .i64 0, .pointer (some ⟨b10, 0, none⟩), .pointer (some ⟨b11, 0, none⟩), .pointer (some ⟨b12, 0, none⟩), undef, undef, .agg (blindC n wd gp t sh), .int .i64 h, .bool true, .bool true, .float .f32 want, .bool true, .bool true, .int .i64 0, .int .i64 0, .bool false, undef, .map (some mb), .agg (blindC n wd gp t sh), .func (.func 52) #[] #[.pointer (some ⟨V.heap.size, 0, none⟩)], .agg (blindC n wd gp x.1 sh), undef, undef, undef, undef, undef, undef, undef, undef, undef, undef, undef, undef, undef, undef, undef, undef, undef, undef, undef, undef, undef, undef], defers := [] } ∧ U.heap[b12]? = some (.cells (blindC n wd gp x.1 sh) 28 (0, 0)))
    (fun x a' s V V' row hx hg hr => by obtain ⟨b12, e, h⟩ := hx; exact ⟨b12, e, heap_keptW h hg (fun r e => (hr r e).2)⟩) ?assign ?body ?done ?stop
  case h0 =>
    exact ⟨⟨_, e1.alloc _, World.ownsRow_nil _ _ _ _, trivial⟩, e3.alloc _, Boxed.alloc C2.out _, ⟨#[], 0, below_row ((Below.refl _ _).alloc (Nat.le_refl _) _) e2, fun y hy => (by simp at hy), fun _ _ => ⟨rfl, rfl⟩⟩, heap_alloc_new _ _, hb.alloc hb.size _⟩
  case assign =>
    rintro l pre x W2 K hI hK
    refine region_plain_round (by rfl) (fun ⟨_, _, h⟩ => h) ?_
    go_wp2_with (refine wpList_store_part rfl 28 _ _ rfl _ 0 (blindC n wd gp x.1 sh) rfl rfl 28 _ (heap_alloc_new _ _) (by kernel_rfl) (Nat.le_refl _) (blind_onew _ _ _ _ _) ?_; rw [laid_allw _ _ (by rfl)])
    have hbn : ∀ o, Below W2.heap.size W2 ((W2.alloc o).setRow W2.heap.size (blindC n wd gp x.1 sh)) := fun o => below_setRow ((Below.refl _ _).alloc (Nat.le_refl _) _) (Nat.le_refl _) _
    exact hK _ _ ((keeps_of_belowW (hbn _)).from _) (fun _ ho => below_row (hbn _) ho) (tfI_own _ _ _ _ _ _ _ _ _ _ _ _ W2.heap.size (by have := hI.2.2.2.2.2.size; exact this) (by obtain ⟨_, _, h4, _⟩ := hI.2.2.2.1; exact row_lt h4) _ _ _ none hI (grown_of_below (hbn _) none) (fun r e => by cases e)) ⟨_, rfl, setRow_heap _ _ _ _ _ _ (heap_alloc_new _ _)⟩
  case body =>
    clear e1 e2 e3 hb HNs hmm C1 C2
    rintro l pre ⟨x, hx0, hx1⟩ a' W2 hl0 hlr ⟨⟨v, hv, hrow2, -⟩, hb11, hb4, ⟨es, ck, hmp, hes, hgood⟩, hG2, hbw⟩ ⟨b12, rfl, h12⟩ hl
    have H12 := Lib.hid h12
    obtain ⟨hps, hcl⟩ := HPs.out x hx0 hx1
    have HPS := Lib.hid hps
    have HCL := Lib.hid hcl
    have HKX := Lib.hid (HKx.out x hx0 hx1)
    have HGD := Lib.hid hgood
    have HES := Lib.hid hes
    have HLR := Lib.hid hlr
    clear h12 hps hcl HPs HKx hgood hes hlr
    dsimp only
    refine wpIn_block (wpIn_seq ?_)
    refine region_plain_round (by rfl) (fun ⟨_, _, h⟩ => h) ?_
    go_wp2_with (first | (refine wpList_load_part rfl 28 _ rfl b12 0 5 rfl 28 (blindC n wd gp x sh) (0, 0) _ H12.out Try.underlying28 rfl info_blind (blind_fits _ _ _ _ _) _ (blind_all _ _ _ _ _) ?_) | (go_at_call 30; refine (bitsOfBlind_any n wd gp x sh _).mono ?_; rintro e W3 ⟨rfl, hb3⟩) | (refine wpList_store_part rfl 61 _ _ rfl _ 0 (bitsC n wd gp x sh) rfl rfl 61 _ (heap_alloc_new _ _) (by kernel_rfl) (Nat.le_refl _) (bitsC_one _ _ _ _ _) ?_; rw [laid_allw _ _ (by rfl)]))
    have hbX : Below W2.heap.size W2 ((W3.alloc (.cells #[.int .i8 0, .int .u32 0, .int .u32 0, .int .i16 0, .int .u32 0] 61)).setRow W3.heap.size (bitsC n wd gp x sh)) := below_setRow (hb3.alloc hb3.size _) hb3.size _
    have h13 : ((W3.alloc (.cells #[.int .i8 0, .int .u32 0, .int .u32 0, .int .i16 0, .int .u32 0] 61)).setRow W3.heap.size (bitsC n wd gp x sh)).heap[W3.heap.size]? = some (.cells (bitsC n wd gp x sh) 61 (0, 0)) := setRow_heap _ _ _ _ _ _ (heap_alloc_new _ _)
    have h13s : W2.heap.size ≤ W3.heap.size := hb3.size
    clear hb3
    generalize (W3.alloc (.cells #[.int .i8 0, .int .u32 0, .int .u32 0, .int .i16 0, .int .u32 0] 61)).setRow W3.heap.size (bitsC n wd gp x sh) = W4 at hbX h13 ⊢
    generalize W3.heap.size = b13 at *
    dsimp only [Act.put]
    have hblt := hv.lt
    have hv4 : Boxed W4 b10 55 v := below_row hbX hv
    have hnown : some b13 ≠ v.ownBlock := fun e => by have := (hrow2.lt b13 e.symm).2; omega
    have hrow4 := owns_bT hrow2 hbX
    have h12 := below_row hbX H12.out
    have hb114 : Boxed W4 b11 56 (.map (some mb)) := below_row hbX hb11
    have hb44 : Boxed W4 b4 2 (.int .i64 h) := below_row hbX hb4
    have hmp4 := below_row hbX hmp
    have hG4 := below_row hbX hG2
    have hbw4 := hbw.trans (hbX.mono hbw.size)
    have hsz4 := hbw4.size
    have hcv := hv4.cell
    have H13 := Lib.hid h13
    have hks : (bitsC n wd gp x sh).size = 5 := rfl
    have n12 := ne_objT h12 hv4 (fun e => by injection e with _ e2 _; exact absurd e2 (by decide))
    have n11 := ne_objT hb114 hv4 (fun e => by injection e with _ e2 _; exact absurd e2 (by decide))
    have n4 := ne_objT hb44 hv4 (fun e => by injection e with _ e2 _; exact absurd e2 (by decide))
    have nm := ne_objT hmp4 hv4 (fun e => by cases e)
    have nG := ne_objT hG4 hv4 (fun e => by injection e with _ e2 _; exact absurd e2 (by decide))
    have n13 : b13 ≠ b10 := by omega
    have HW := Lib.hid (And.intro h12 (And.intro hb114 (And.intro hb44 (And.intro hmp4 hG4))))
    have HbX := Lib.hid hbX
    clear h12 hb114 hb44 hmp4 hG4 h13 hv hb11 hb4 hmp hG2 hrow2 hbw hbX
    refine wpIn_seq ?_
    refine region_plain_round (by rfl) (fun ⟨_, _, h⟩ => h) ?_
    go_wp2_with (first | (refine wpList_load_part rfl 61 _ rfl b13 0 5 rfl 61 (bitsC n wd gp x sh) (0, 0) _ H13.out Try.underlying61 rfl info_kB (bitsC_fits _ _ _ _ _) _ (bitsC_all _ _ _ _ _) ?_) | (at_builtin; refine wpList_append_own _ rfl _ _ 55 rfl w.heap.size 61 i0 (.agg #[.int .i8 0, .int .u32 0, .int .u32 0, .int .i16 0, .int .u32 0]) 5 20 Try.underlying55 hin hz0 hz1 hz2 rfl (by decide) _ _ _ rfl (hrow4.alloc _) ⟨W4.heap.size, 0, none⟩ 1 1 (bitsC n wd gp x sh).toList rfl rfl (cells_new _ _ _) (fun u hu => bitsC_one _ _ _ _ _ u (by simpa using hu)) (by unfold maxLen; omega) (by omega) (by simp; omega) ?_; intro v' w1 hown' hgrow _; obtain ⟨g', cap', rfl⟩ := ownsRow_succT hown'; obtain ⟨hv1, hv2, hr2, hk2, hbA⟩ := hv4.appended (by decide) hrow4 hsz4 (by omega) hown' hgrow; have hc1 := hv1.cell; have hf1 := hv1.frozen))
    obtain ⟨a12, a11, a4, am, aG⟩ := HW.out
    have hgr : (W4.alloc (.cells _ 61)).grownBy w1 v.ownBlock := hgrow
    have keep : ∀ (g : Nat) (o : Obj), W4.heap[g]? = some o → some g ≠ v.ownBlock → g ≠ b10 → (w1.setCell ⟨b10, 0, none⟩ (.slice (some ⟨g', 0, none⟩) (pre.length + 1) cap')).heap[g]? = some o := fun g o h hne hn => (heap_setCell_other _ _ _ _ (by simpa using hn)).trans (keep_appT h hne hgr)
    have s12 := keep _ _ a12 (row_ne a12 (fun cs fr h => by injection h with _ e2 _; exact absurd e2 (by decide)) hrow4) n12
    have s11 := keep _ _ a11 (row_ne a11 (fun cs fr h => by injection h with _ e2 _; exact absurd e2 (by decide)) hrow4) n11
    have s4 := keep _ _ a4 (row_ne a4 (fun cs fr h => by injection h with _ e2 _; exact absurd e2 (by decide)) hrow4) n4
    have sm := keep _ _ am (row_ne am (fun cs fr h => by cases h) hrow4) nm
    have sG := keep _ _ aG (row_ne aG (fun cs fr h => by injection h with _ e2 _; exact absurd e2 (by decide)) hrow4) nG
    have s13 := keep _ _ H13.out hnown n13
    have hbw5 := hbw4.trans hbA
    clear keep hgr hgrow hown' hv1 hc1 hf1 hcv hbA hrow4 hv4 HW n12 n11 n4 nm nG n13 a12 a11 a4 am
    generalize hW5 : w1.setCell ⟨b10, 0, none⟩ (.slice (some ⟨g', 0, none⟩) (pre.length + 1) cap') = W5 at *
    clear hW5
    have SM := Lib.hid sm
    have SG := Lib.hid sG
    have SH := Lib.hid (And.intro hv2 (And.intro hr2 (And.intro hk2 hbw5)))
    have AG := Lib.hid aG
    clear sm sG hv2 hr2 hk2 hbw5 aG hbw4
    refine region_round (S := (fun U => U.heap[b13]? = some (.cells (bitsC n wd gp x sh) 61 (0, 0)) ∧ U.heap[b12]? = some (.cells (blindC n wd gp x sh) 28 (0, 0)) ∧ Boxed U b11 56 (.map (some mb)) ∧ Boxed U b4 2 (.int .i64 h))) arrT (no_defer (by rfl)) (fun ⟨_, _, h⟩ => h) ⟨s13, s12, s11, s4⟩ (fun hHeld => ?_)
    clear s13 s12 s11 s4
    refine take_op (i := 0) (d := 36) (v := ?_) rfl rfl (by kernel_rfl) (by kernel_rfl) (by kernel_rfl) (fun _ _ _ h => h) (Or.inl ⟨by rfl, ?hy0u18⟩) hHeld ?rest0u18
    case hy0u18 =>
      intro w' hS'
      have k11 := hS'.2.2.1.cell
      go_simp
      try with_reducible rfl
    simp only [List.setIfInBounds_toArray, List.set_cons_zero, List.set_cons_succ]
    refine take_op (i := 1) (d := 37) (v := .agg (bitsC n wd gp x sh)) rfl rfl (by kernel_rfl) (by kernel_rfl) (by kernel_rfl) (fun _ _ _ h => h) (yields_row (by rfl) 61 (.tmp 13) (by rfl) b13 0 5 (by rfl) 61 (bitsC n wd gp x sh) (0, 0) _ (fun _ h => h.1) Try.underlying61 rfl info_kB (bitsC_fits _ _ _ _ _) (bitsC n wd gp x sh) (bitsC_all _ _ _ _ _)) hHeld ?_
    simp only [List.setIfInBounds_toArray, List.set_cons_zero, List.set_cons_succ]
    refine take_op (i := 2) (d := 38) (v := .agg (blindC n wd gp x sh)) rfl rfl (by kernel_rfl) (by kernel_rfl) (by kernel_rfl) (fun _ _ _ h => h) (yields_row (by rfl) 28 (.tmp 12) (by rfl) b12 0 5 (by rfl) 28 (blindC n wd gp x sh) (0, 0) _ (fun _ h => h.2.1) Try.underlying28 rfl info_blind (blind_fits _ _ _ _ _) (blindC n wd gp x sh) (blind_all _ _ _ _ _)) hHeld ?_
    simp only [List.setIfInBounds_toArray, List.set_cons_zero, List.set_cons_succ]
    refine take_op (i := 4) (d := 40) (v := ?_) rfl rfl (by kernel_rfl) (by kernel_rfl) (by kernel_rfl) (fun _ _ _ h => h) (Or.inl ⟨by rfl, ?hy4u19⟩) hHeld ?rest4u19
    case hy4u19 =>
      intro w' hS'
      have k4 := hS'.2.2.2.cell
      go_simp
      try with_reducible rfl
    simp only [List.setIfInBounds_toArray, List.set_cons_zero, List.set_cons_succ]
    refine wpAnyH_ready (rs := [3]) (by kernel_rfl) (by simp) ?_
    refine AllReadyH.cons rfl (fun K hK => ?_) AllReadyH.nil
    go_simp
    refine (HPS.out _).mono ?_
    rintro e U1 ⟨⟨v0, rfl, p1, p2, rfl, c4, c5⟩, hb1⟩
    have C4 := Lib.hid c4
    have C5 := Lib.hid c5
    clear c4 c5
    refine hK.out _ _ (⟨below_row hb1 hHeld.1, below_row hb1 hHeld.2.1, below_row hb1 hHeld.2.2.1, below_row hb1 hHeld.2.2.2⟩) (fun hHeld2 => ?_)
    clear hK K
    replace hHeld := hHeld2
    clear hHeld2
    refine wpAnyH_ready (rs := [5]) (by kernel_rfl) (by simp) ?_
    refine AllReadyH.cons rfl (fun K hK => ?_) AllReadyH.nil
    go_simp
    refine (HCL.out p1 p2 _ C4.out C5.out).mono ?_
    rintro e U2 ⟨rfl, hb2⟩
    refine hK.out _ _ (⟨below_row hb2 hHeld.1, below_row hb2 hHeld.2.1, below_row hb2 hHeld.2.2.1, below_row hb2 hHeld.2.2.2⟩) (fun hHeld2 => ?_)
    clear hK K
    replace hHeld := hHeld2
    clear hHeld2
    have hbU : Below W5.heap.size W5 U2 := ((Below.refl W5.heap.size W5).drew.trans hb1).trans (hb2.mono hb1.size)
    clear hb1 hb2
    have hmU := below_row hbU SM.out
    have upd : ∃ es' ck', (Instr.mapUpdate 56 (.map (some mb)) (.agg (bitsC n wd gp x sh)) (.float .f32 (pasB wd gp x sh h))).run Try.prog U2 = .ok () (setBlock U2 mb (.map es' ck')) ∧ (∀ y ∈ es'.toList, ∃ l, keyOf Try.prog 61 y.key = some l) ∧ ((pre ++ [(⟨x, hx0, hx1⟩ : Tl)]).length ≤ 129 → pre ++ [(⟨x, hx0, hx1⟩ : Tl)] = tls (pre ++ [(⟨x, hx0, hx1⟩ : Tl)]).length → es' = ents (pre ++ [(⟨x, hx0, hx1⟩ : Tl)]).length (kBB n (nbits wd) (nbits gp) (nbits sh)) (pT wd gp sh h) ∧ ck' = (pre ++ [(⟨x, hx0, hx1⟩ : Tl)]).length) := by
      have hlen : (pre ++ [(⟨x, hx0, hx1⟩ : Tl)]).length = pre.length + 1 := by simp
      rw [hlen]
      by_cases hg : pre ++ [(⟨x, hx0, hx1⟩ : Tl)] = tls (pre.length + 1)
      · rw [tls_succ] at hg
        have hsp := List.append_inj hg (by simp)
        have hxv : x = (pre.length : Int) - 64 := by
          have := congrArg (fun l => l.map (·.1)) hsp.2
          simp only [List.map_cons, List.map_nil, List.cons.injEq, and_true] at this
          rw [this, tl_val _ hl]
        obtain ⟨he, hck⟩ := HGD.out (Nat.le_of_lt hl) hsp.1
        have ek : kBB n (nbits wd) (nbits gp) (nbits sh) pre.length = bitsC n wd gp x sh := by rw [hxv]; rfl
        have ev : pT wd gp sh h pre.length = pasB wd gp x sh h := by rw [hxv]; rfl
        have hm2 := hmU
        rw [he, hck] at hm2
        have hnew := new_ents (P := Try.prog) kB_law Try.underlying56 hm2 HKy.out (by omega : pre.length < 129)
        rw [ek, ev] at hnew
        refine ⟨_, _, hnew, fun y hy => ?_, fun _ _ => ⟨rfl, rfl⟩⟩
        obtain ⟨i, hi, hyk, _⟩ := mem_ents hy
        rw [hyk]
        exact HKy.out.key i (by omega)
      · obtain ⟨es', ck', u1, u2⟩ := update_any kB_law Try.underlying56 hmU (.float .f32 (pasB wd gp x sh h)) HKX.out HES.out
        exact ⟨es', ck', u1, u2, fun _ h => absurd h hg⟩
    obtain ⟨es', ck', hrun, hes', hgd'⟩ := upd
    have HE := Lib.hid (And.intro hes' hgd')
    clear hes' hgd'
    refine wpAnyH_ready (rs := [6]) (by kernel_rfl) (by simp) ?_
    refine AllReadyH.cons rfl (fun K hK => ?_) AllReadyH.nil
    go_simp
    have m13 := ne_objT hHeld.1 hmU (fun e => by cases e)
    have m12 := ne_objT hHeld.2.1 hmU (fun e => by cases e)
    have m11 := ne_objT hHeld.2.2.1 hmU (fun e => by cases e)
    have m4 := ne_objT hHeld.2.2.2 hmU (fun e => by cases e)
    refine hK.out _ _ ⟨(heap_setBlock_other hmU _ m13).trans hHeld.1, (heap_setBlock_other hmU _ m12).trans hHeld.2.1, (heap_setBlock_other hmU _ m11).trans hHeld.2.2.1, (heap_setBlock_other hmU _ m4).trans hHeld.2.2.2⟩ (fun hHeld2 => ?_)
    clear hK K hHeld hrun
    refine wpAnyH_done (by kernel_rfl) ?_ _
    obtain ⟨q13, q12, q11, q4⟩ := hHeld2
    obtain ⟨hv2, hr2, hk2, hbw5⟩ := SH.out
    have kk := ((keeps_of_belowW HbX.out).trans hk2).trans (keeps_of_belowW hbU)
    have hGU := below_row hbU SG.out
    have hvU : Boxed U2 b10 55 _ := below_row hbU hv2
    have mG := ne_objT hGU hmU (fun e => by cases e)
    have m10 := ne_objT hvU hmU (fun e => by cases e)
    have hrU := owns_bT hr2 hbU
    have hbwU := hbw5.trans (hbU.mono hbw5.size)
    gi_wp2
    refine ⟨⟨Nat.le_trans kk.size (by simp [setBlock]), fun k o hB hk ho => (heap_setBlock_other hmU _ (by simp at hB; omega)).trans (kk.same k o (by exact hk) ho)⟩, ?_, ⟨_, (heap_setBlock_other hmU _ m10).trans hvU, ?_, trivial⟩, q11, q4, ⟨es', ck', heap_setBlock_same hmU _, HE.out.1, HE.out.2⟩, (heap_setBlock_other hmU _ mG).trans hGU, below_setBlock hbwU hle1 hmU⟩
    · intro o ho
      have h4 := below_row HbX.out ho
      rw [AG.out] at h4
      injection h4 with h4
      subst h4
      exact (heap_setBlock_other hmU _ mG).trans hGU
    · have hlen : (pre ++ [(⟨x, hx0, hx1⟩ : Tl)]).length = pre.length + 1 := by simp
      rw [hlen, flatB_snoc]
      exact hrU.kept (row := some mb) (grown_setBlockT hmU _) (.inr (fun e => (row_ne hmU (fun cs fr h => by cases h) hrU) e.symm))
  case done =>
    rintro D zs W2 hD rfl ⟨⟨v, hv, hrow2, -⟩, hb11, hb4, ⟨es, ck, hmp, hes, hgood⟩, hG2, hbw⟩ hK
    rename_i K hcont
    obtain ⟨he, hck⟩ := hgood (by rw [tls_length]; exact Nat.le_refl _) (by rw [tls_length])
    rw [tls_length] at he hck hrow2
    subst he; subst hck
    rw [flatB_tls n wd gp sh 129 (Nat.le_refl _)] at hrow2
    have hD' : w.heap.size ≤ D := by simp at hD; omega
    have hA : KeysAt 61 5 W2 v 129 (kBB n (nbits wd) (nbits gp) (nbits sh)) := keysAt_of_row (fun _ => rfl) (by omega) hrow2
    have HNr : Hid (Calls Try.prog 32 #[v, .map (some mb), .float .f32 want] W2 fun e w' => e = .returned (.agg ((kBB n (nbits wd) (nbits gp) (nbits sh)) (firstMin (dT wd gp sh h want) 128))) ∧ Below W2.heap.size W2 w') := Lib.hid (nearestB_any n (nbits wd) (nbits gp) (nbits sh) 129 129 (by omega) (Nat.le_refl _) (by omega) (pT wd gp sh h) want HNs.out HKy.out v mb W2 hA hmp)
    have hj := firstMin_le (dT wd gp sh h want) 128
    have k10 := hv.cell
    have k11 := hb11.cell
    have HKD := Lib.hid hK
    have HMP := Lib.hid hmp
    have HB11 := Lib.hid hb11
    have hbW := hbw
    clear hA hrow2 hes hgood hG2 hb4 hK hmp hb11 hv hbw HNs HPs HKx e1 e2 e3 C1 C2
    generalize hjj : firstMin (dT wd gp sh h want) 128 = j at *
    have HJ := Lib.hid hjj
    clear hjj
    refine hcont _ _ ?_
    go_upto_region 12 with (first | (go_at_call 32; refine HNr.out.mono ?_; rintro e V1 ⟨rfl, hb1⟩) | (refine wpList_store_part rfl 61 _ _ rfl _ 0 ((kBB n (nbits wd) (nbits gp) (nbits sh)) j) rfl rfl 61 _ (heap_alloc_new _ _) (by kernel_rfl) (Nat.le_refl _) (kB_one _ _ _ _ _) ?_; rw [laid_allw _ _ (by rfl)]))
    refine abs_world (fun V2 => Below W2.heap.size W2 V2 ∧ V2.heap[V1.heap.size]? = some (.cells ((kBB n (nbits wd) (nbits gp) (nbits sh)) j) 61 (0, 0))) ⟨below_setRow (hb1.alloc hb1.size _) hb1.size _, setRow_heap _ _ _ _ _ _ (heap_alloc_new _ _)⟩ ?_
    clear hb1 HNr k10 k11
    generalize V1.heap.size = rb at *
    rintro V2 ⟨hb2, hr⟩
    replace HMP := Lib.hid (below_row hb2 HMP.out)
    replace HKD := Lib.hid (below_row hb2 HKD.out)
    have hbx : Boxed V2 b11 56 (.map (some mb)) := below_row hb2 HB11.out
    have hbV := hbW.trans (hb2.mono hbW.size)
    have hwr : IntKind.i64.wrap ((j : Int) - 64) = (j : Int) - 64 := IntWalk.i64_in _ (by omega)
    clear hb2 HB11
    dsimp only [Act.put]
    refine wp_onlyT ?_
    refine wp_region_held_drew (S := (fun U => U.heap[rb]? = some (.cells ((kBB n (nbits wd) (nbits gp) (nbits sh)) j) 61 (0, 0)) ∧ U.heap[mb]? = some (.map (ents 129 (kBB n (nbits wd) (nbits gp) (nbits sh)) (pT wd gp sh h)) 129) ∧ Boxed U b11 56 (.map (some mb)) ∧ U.heap[D]? = some (.deferred (some [])) ∧ Below w.heap.size w U)) (by kernel_rfl) ⟨hr, HMP.out, hbx, HKD.out, hbV.drew⟩ (fun hHeld => ?_)
    refine take_op (i := 0) (d := 46) (v := ?_) rfl rfl (by kernel_rfl) (by kernel_rfl) (by kernel_rfl) (fun _ _ _ h => h) (Or.inl ⟨by rfl, ?hy0u10⟩) hHeld ?rest0u10
    case hy0u10 =>
      intro w' hS'
      go_simp
      try with_reducible rfl
    simp only [List.setIfInBounds_toArray, List.set_cons_zero, List.set_cons_succ]
    refine take_op (i := 1) (d := 47) (v := ?_) rfl rfl (by kernel_rfl) (by kernel_rfl) (by kernel_rfl) (fun _ _ _ h => h) (Or.inl ⟨by rfl, ?hy1u11⟩) hHeld ?rest1u11
    case hy1u11 =>
      intro w' hS'
      have k3 : w'.cell? ⟨rb, 3, none⟩ = some (.int .i16 ((j : Int) - 64)) := by rw [cell_of_row w' _ _ _ _ _ hS'.1]; rfl
      go_simp
      try with_reducible rfl
    simp only [List.setIfInBounds_toArray, List.set_cons_zero, List.set_cons_succ]
    refine take_op (i := 2) (d := 48) (v := ?_) rfl rfl (by kernel_rfl) (by kernel_rfl) (by kernel_rfl) (fun _ _ _ h => h) (Or.inl ⟨by rfl, ?hy2u12⟩) hHeld ?rest2u12
    case hy2u12 =>
      intro w' hS'
      go_simp
      try with_reducible rfl
    simp only [List.setIfInBounds_toArray, List.set_cons_zero, List.set_cons_succ]
    refine take_op (i := 3) (d := 49) (v := ?_) rfl rfl (by kernel_rfl) (by kernel_rfl) (by kernel_rfl) (fun _ _ _ h => h) (Or.inl ⟨by rfl, ?hy3u13⟩) hHeld ?rest3u13
    case hy3u13 =>
      intro w' hS'
      have k11 := hS'.2.2.1.cell
      go_simp
      try with_reducible rfl
    simp only [List.setIfInBounds_toArray, List.set_cons_zero, List.set_cons_succ]
    refine take_op (i := 4) (d := 50) (v := .agg ((kBB n (nbits wd) (nbits gp) (nbits sh)) j)) rfl rfl (by kernel_rfl) (by kernel_rfl) (by kernel_rfl) (fun _ _ _ h => h) (yields_row (by rfl) 61 (.tmp 14) (by rfl) rb 0 5 (by rfl) 61 ((kBB n (nbits wd) (nbits gp) (nbits sh)) j) (0, 0) _ (fun _ h => h.1) Try.underlying61 rfl info_kB (kB_fits _ _ _ _ _) ((kBB n (nbits wd) (nbits gp) (nbits sh)) j) (kB_all _ _ _ _ _)) hHeld ?_
    simp only [List.setIfInBounds_toArray, List.set_cons_zero, List.set_cons_succ]
    refine take_op (i := 5) (d := 51) (v := ?_) rfl rfl (by kernel_rfl) (by kernel_rfl) (by kernel_rfl) (fun _ _ _ h => h) (Or.inl ⟨by rfl, ?hy5u14⟩) hHeld ?rest5u14
    case hy5u14 =>
      intro w' hS'
      have hlk := look_ents kB_law Try.underlying56 (kB_zero _) hS'.2.1 HKy.out (by omega) j (by omega)
      go_simp
      try with_reducible rfl
    simp only [List.setIfInBounds_toArray, List.set_cons_zero, List.set_cons_succ]
    refine take_op (i := 6) (d := 6) (v := ?_) rfl rfl (by kernel_rfl) (by kernel_rfl) (by kernel_rfl) (fun _ _ _ h => h) (Or.inl ⟨by rfl, ?hy6u15⟩) hHeld ?rest6u15
    case hy6u15 =>
      intro w' hS'
      go_simp
      try with_reducible rfl
    simp only [List.setIfInBounds_toArray, List.set_cons_zero, List.set_cons_succ]
    refine take_op (i := 7) (d := 7) (v := ?_) rfl rfl (by kernel_rfl) (by kernel_rfl) (by kernel_rfl) (fun _ _ _ h => h) (Or.inl ⟨by rfl, ?hy7u16⟩) hHeld ?rest7u16
    case hy7u16 =>
      intro w' hS'
      go_simp
      try with_reducible rfl
    simp only [List.setIfInBounds_toArray, List.set_cons_zero, List.set_cons_succ]
    refine take_op (i := 8) (d := 8) (v := ?_) rfl rfl (by kernel_rfl) (by kernel_rfl) (by kernel_rfl) (fun _ _ _ h => h) (Or.inl ⟨by rfl, ?hy8u17⟩) hHeld ?rest8u17
    case hy8u17 =>
      intro w' hS'
      go_simp
      try with_reducible rfl
    simp only [List.setIfInBounds_toArray, List.set_cons_zero, List.set_cons_succ]
    refine wpAnyH_done (by kernel_rfl) ?_ _
    obtain ⟨_, _, _, hKD, hbz⟩ := hHeld
    go_wp2
    refine ⟨by simp, .inl ⟨_, _, rfl, run_takeDeferred hKD, ?_⟩⟩
    exact ⟨_, results_tmp3 (fn := Try.f8) rfl _ _ _, by rw [HJ.out]; rfl, hbz.trans (belowK_b (w := w) (Nat.le_refl _) _ D _ _ hD' hKD rfl rfl)⟩
  case stop =>
    rintro D c pre W _ _ h _
    exact h.elim

end Go.Proofs.Ytdccmdcgbembpaa
