/-
  For every sun, valid or not, every facing and every least light: the hours with enough light are what the model says, in memory of their own. No conditions.
-/
import Derived.Test.YteagbfobnjfhcabHrsRun
import Derived.Test.YteagbfobnjfhcabListLaw
import Derived.Test.YteagbfobnjfhcabSgn
namespace Go.Proofs.Yteagbfobnjfhcab
open Go.ChangeShapes Go.WideShapes Go.ChangeAt Go.RowKit

attribute [local go_sem] run_store_float

set_option maxRecDepth 100000 in
set_option maxHeartbeats 1000000 in
theorem implSunHours_no1 (hs ts : List Int) (hh : hs.length = 24) (ht : ts.length = 24) (facing : Int) (le : Nat) (h3 : inF facing = false) (hk : ¬ (okB hs ts = true ∧ (inF facing && partB le) = true)) (w : World) :
    Calls Try.prog 33 #[.agg (sunC hs ts), .int .i64 facing, .float .f32 le] w (RetList [] (codeB (okB hs ts) (inF facing && partB le)) w) := by
  have e1 : (inF facing && partB le) = false := by rw [h3]; rfl
  have hne := codeB_ne hk
  rw [e1] at hne ⊢
  generalize hc : codeB (okB hs ts) false = c at *
  have Hc := Lib.hid hc
  have Hf := Lib.hid h3
  have Hh := Lib.hid hh
  have Ht := Lib.hid ht
  have hne' : (c != 0) = true := bne_iff_ne.2 hne
  clear hk h3 hc hne e1 hh ht
  go_enter Try.func33, Try.ntmps33
  go_upto_region 1 with (fail)
  refine abs_world (fun W => W.heap[w.heap.size]? = some (.cells (sunC hs ts) 51 (0, 0)) ∧ W.heap[w.heap.size + 1]? = some (.cells #[.int .i64 facing] 2 (0, 0)) ∧ W.heap[w.heap.size + 1 + 1]? = some (.cells #[.float .f32 le] 22 (0, 0)) ∧ Below w.heap.size w W) ⟨(three_new _ _ _ _).1, (three_new _ _ _ _).2.1, (three_new _ _ _ _).2.2.1, (three_new _ _ _ _).2.2.2⟩ ?_
  rintro W ⟨h0, h1, h2, hb⟩
  generalize w.heap.size + 1 + 1 = g3 at *
  generalize w.heap.size + 1 = g2 at *
  refine wp_region_held_drew (S := (fun W => W.heap[w.heap.size]? = some (.cells (sunC hs ts) 51 (0, 0)) ∧ W.heap[g2]? = some (.cells #[.int .i64 facing] 2 (0, 0)) ∧ W.heap[g3]? = some (.cells #[.float .f32 le] 22 (0, 0)) ∧ Below w.heap.size w W)) (by kernel_rfl) ⟨h0, h1, h2, hb.drew⟩ (fun hHeld => ?_)
  refine take_op (i := 0) (d := 11) (v := .agg (sunC hs ts)) rfl rfl (by kernel_rfl) (by kernel_rfl) (by kernel_rfl) (fun _ _ _ h => h) (yields_row (by rfl) 51 (.tmp 3) (by rfl) w.heap.size 0 48 (by rfl) 51 (sunC hs ts) (0, 0) _ (fun _ h => h.1) Try.underlying51 rfl info_sun (sun_fits _ _ Hh.out Ht.out) (sunC hs ts) (sun_all _ _ Hh.out Ht.out)) hHeld ?_
  simp only [List.setIfInBounds_toArray, List.set_cons_zero, List.set_cons_succ]
  refine take_op (i := 1) (d := 12) (v := ?_) rfl rfl (by kernel_rfl) (by kernel_rfl) (by kernel_rfl) (fun _ _ _ h => h) (Or.inl ⟨by rfl, ?hy1u65⟩) hHeld ?rest1u65
  case hy1u65 =>
    intro w' hS'
    obtain ⟨s1, s2, s3, s4⟩ := hS'
    have q2 : w'.cell? ⟨g2, 0, none⟩ = some (.int .i64 facing) := by rw [cell_of_row w' _ _ _ _ _ s2]; rfl
    have q3 : w'.cell? ⟨g3, 0, none⟩ = some (.float .f32 le) := by rw [cell_of_row w' _ _ _ _ _ s3]; rfl
    clear s1 s2 s3 s4
    go_simp
    try with_reducible rfl
  simp only [List.setIfInBounds_toArray, List.set_cons_zero, List.set_cons_succ]
  refine wpAnyH_ready (rs := [2]) (by kernel_rfl) (by simp) ?_
  refine AllReadyH.cons rfl (fun K hK => ?_) AllReadyH.nil
  go_simp
  refine (isFacing_is facing false Hf.out _).mono ?_
  rintro e w' ⟨rfl, rfl⟩
  refine hK.out _ _ (hHeld) (fun hHeld2 => ?_)
  clear hK K
  replace hHeld := hHeld2
  clear hHeld2
  refine take_op (i := 3) (d := 14) (v := ?_) rfl rfl (by kernel_rfl) (by kernel_rfl) (by kernel_rfl) (fun _ _ _ h => h) (Or.inl ⟨by rfl, ?hy3u66⟩) hHeld ?rest3u66
  case hy3u66 =>
    intro w' hS'
    go_simp
    try with_reducible rfl
  simp only [List.setIfInBounds_toArray, List.set_cons_zero, List.set_cons_succ]
  refine take_op (i := 4) (d := 15) rfl rfl (by kernel_rfl) (by kernel_rfl) (by kernel_rfl) (fun _ _ _ h => h) (Or.inr ⟨by rfl, rfl⟩) hHeld ?_
  simp only [List.setIfInBounds_toArray, List.set_cons_zero, List.set_cons_succ]
  refine take_op (i := 5) (d := 16) rfl rfl (by kernel_rfl) (by kernel_rfl) (by kernel_rfl) (fun _ _ _ h => h) (Or.inr ⟨by rfl, rfl⟩) hHeld ?_
  simp only [List.setIfInBounds_toArray, List.set_cons_zero, List.set_cons_succ]
  refine take_op (i := 6) (d := 17) (v := ?_) rfl rfl (by kernel_rfl) (by kernel_rfl) (by kernel_rfl) (fun _ _ _ h => h) (Or.inl ⟨by rfl, ?hy6u67⟩) hHeld ?rest6u67
  case hy6u67 =>
    intro w' hS'
    go_simp
    try with_reducible rfl
  simp only [List.setIfInBounds_toArray, List.set_cons_zero, List.set_cons_succ]
  refine wpAnyH_ready (rs := [7]) (by kernel_rfl) (by simp) ?_
  refine AllReadyH.cons rfl (fun K hK => ?_) AllReadyH.nil
  go_simp
  refine (checkSun_is hs ts Hh.out Ht.out false c Hc.out _).mono ?_
  rintro e W1 ⟨rfl, hb1⟩
  refine hK.out _ _ (⟨below_row hb1 hHeld.1, below_row hb1 hHeld.2.1, below_row hb1 hHeld.2.2.1, hHeld.2.2.2.trans (hb1.mono hHeld.2.2.2.size)⟩) (fun hHeld2 => ?_)
  clear hK K
  replace hHeld := hHeld2
  clear hHeld2
  refine take_op (i := 8) (d := 8) (v := ?_) rfl rfl (by kernel_rfl) (by kernel_rfl) (by kernel_rfl) (fun _ _ _ h => h) (Or.inl ⟨by rfl, ?hy8u68⟩) hHeld ?rest8u68
  case hy8u68 =>
    intro w' hS'
    go_simp
    try with_reducible rfl
  simp only [List.setIfInBounds_toArray, List.set_cons_zero, List.set_cons_succ]
  refine wpAnyH_done (by kernel_rfl) ?_ _
  have hbx := hHeld.2.2.2
  clear hHeld h0 h1 h2 hb
  go_wp2
  go_ret2
  exact ⟨⟨_, rfl, own_nil⟩, hbx⟩

set_option maxRecDepth 100000 in
set_option maxHeartbeats 1000000 in
theorem implSunHours_no2 (hs ts : List Int) (hh : hs.length = 24) (ht : ts.length = 24) (facing : Int) (le : Nat) (h3 : inF facing = true) (hk : ¬ (okB hs ts = true ∧ (inF facing && partB le) = true)) (w : World) :
    Calls Try.prog 33 #[.agg (sunC hs ts), .int .i64 facing, .float .f32 le] w (RetList [] (codeB (okB hs ts) (inF facing && partB le)) w) := by
  have e1 : (inF facing && partB le) = partB le := by rw [h3]; rfl
  have hne := codeB_ne hk
  rw [e1] at hne ⊢
  generalize hp : partB le = p at *
  generalize hc : codeB (okB hs ts) p = c at *
  have Hc := Lib.hid hc
  have Hf := Lib.hid h3
  have Hp := Lib.hid hp
  have Hh := Lib.hid hh
  have Ht := Lib.hid ht
  have hne' : (c != 0) = true := bne_iff_ne.2 hne
  clear hk h3 hc hne e1 hh ht hp
  go_enter Try.func33, Try.ntmps33
  go_upto_region 1 with (fail)
  refine abs_world (fun W => W.heap[w.heap.size]? = some (.cells (sunC hs ts) 51 (0, 0)) ∧ W.heap[w.heap.size + 1]? = some (.cells #[.int .i64 facing] 2 (0, 0)) ∧ W.heap[w.heap.size + 1 + 1]? = some (.cells #[.float .f32 le] 22 (0, 0)) ∧ Below w.heap.size w W) ⟨(three_new _ _ _ _).1, (three_new _ _ _ _).2.1, (three_new _ _ _ _).2.2.1, (three_new _ _ _ _).2.2.2⟩ ?_
  rintro W ⟨h0, h1, h2, hb⟩
  generalize w.heap.size + 1 + 1 = g3 at *
  generalize w.heap.size + 1 = g2 at *
  refine wp_region_held_drew (S := (fun W => W.heap[w.heap.size]? = some (.cells (sunC hs ts) 51 (0, 0)) ∧ W.heap[g2]? = some (.cells #[.int .i64 facing] 2 (0, 0)) ∧ W.heap[g3]? = some (.cells #[.float .f32 le] 22 (0, 0)) ∧ Below w.heap.size w W)) (by kernel_rfl) ⟨h0, h1, h2, hb.drew⟩ (fun hHeld => ?_)
  refine take_op (i := 0) (d := 11) (v := .agg (sunC hs ts)) rfl rfl (by kernel_rfl) (by kernel_rfl) (by kernel_rfl) (fun _ _ _ h => h) (yields_row (by rfl) 51 (.tmp 3) (by rfl) w.heap.size 0 48 (by rfl) 51 (sunC hs ts) (0, 0) _ (fun _ h => h.1) Try.underlying51 rfl info_sun (sun_fits _ _ Hh.out Ht.out) (sunC hs ts) (sun_all _ _ Hh.out Ht.out)) hHeld ?_
  simp only [List.setIfInBounds_toArray, List.set_cons_zero, List.set_cons_succ]
  refine take_op (i := 1) (d := 12) (v := ?_) rfl rfl (by kernel_rfl) (by kernel_rfl) (by kernel_rfl) (fun _ _ _ h => h) (Or.inl ⟨by rfl, ?hy1u69⟩) hHeld ?rest1u69
  case hy1u69 =>
    intro w' hS'
    obtain ⟨s1, s2, s3, s4⟩ := hS'
    have q2 : w'.cell? ⟨g2, 0, none⟩ = some (.int .i64 facing) := by rw [cell_of_row w' _ _ _ _ _ s2]; rfl
    have q3 : w'.cell? ⟨g3, 0, none⟩ = some (.float .f32 le) := by rw [cell_of_row w' _ _ _ _ _ s3]; rfl
    clear s1 s2 s3 s4
    go_simp
    try with_reducible rfl
  simp only [List.setIfInBounds_toArray, List.set_cons_zero, List.set_cons_succ]
  refine wpAnyH_ready (rs := [2]) (by kernel_rfl) (by simp) ?_
  refine AllReadyH.cons rfl (fun K hK => ?_) AllReadyH.nil
  go_simp
  refine (isFacing_is facing true Hf.out _).mono ?_
  rintro e w' ⟨rfl, rfl⟩
  refine hK.out _ _ (hHeld) (fun hHeld2 => ?_)
  clear hK K
  replace hHeld := hHeld2
  clear hHeld2
  refine take_op (i := 3) (d := 14) (v := ?_) rfl rfl (by kernel_rfl) (by kernel_rfl) (by kernel_rfl) (fun _ _ _ h => h) (Or.inl ⟨by rfl, ?hy3u70⟩) hHeld ?rest3u70
  case hy3u70 =>
    intro w' hS'
    go_simp
    try with_reducible rfl
  simp only [List.setIfInBounds_toArray, List.set_cons_zero, List.set_cons_succ]
  refine take_op (i := 4) (d := 15) (v := ?_) rfl rfl (by kernel_rfl) (by kernel_rfl) (by kernel_rfl) (fun _ _ _ h => h) (Or.inl ⟨by rfl, ?hy4u71⟩) hHeld ?rest4u71
  case hy4u71 =>
    intro w' hS'
    obtain ⟨s1, s2, s3, s4⟩ := hS'
    have q2 : w'.cell? ⟨g2, 0, none⟩ = some (.int .i64 facing) := by rw [cell_of_row w' _ _ _ _ _ s2]; rfl
    have q3 : w'.cell? ⟨g3, 0, none⟩ = some (.float .f32 le) := by rw [cell_of_row w' _ _ _ _ _ s3]; rfl
    clear s1 s2 s3 s4
    go_simp
    try with_reducible rfl
  simp only [List.setIfInBounds_toArray, List.set_cons_zero, List.set_cons_succ]
  refine wpAnyH_ready (rs := [5]) (by kernel_rfl) (by simp) ?_
  refine AllReadyH.cons rfl (fun K hK => ?_) AllReadyH.nil
  go_simp
  refine (isPart_h le p Hp.out _).mono ?_
  rintro e w' ⟨rfl, rfl⟩
  refine hK.out _ _ (hHeld) (fun hHeld2 => ?_)
  clear hK K
  replace hHeld := hHeld2
  clear hHeld2
  refine take_op (i := 6) (d := 17) (v := ?_) rfl rfl (by kernel_rfl) (by kernel_rfl) (by kernel_rfl) (fun _ _ _ h => h) (Or.inl ⟨by rfl, ?hy6u72⟩) hHeld ?rest6u72
  case hy6u72 =>
    intro w' hS'
    go_simp
    try with_reducible rfl
  simp only [List.setIfInBounds_toArray, List.set_cons_zero, List.set_cons_succ]
  refine wpAnyH_ready (rs := [7]) (by kernel_rfl) (by simp) ?_
  refine AllReadyH.cons rfl (fun K hK => ?_) AllReadyH.nil
  go_simp
  refine (checkSun_is hs ts Hh.out Ht.out p c Hc.out _).mono ?_
  rintro e W1 ⟨rfl, hb1⟩
  refine hK.out _ _ (⟨below_row hb1 hHeld.1, below_row hb1 hHeld.2.1, below_row hb1 hHeld.2.2.1, hHeld.2.2.2.trans (hb1.mono hHeld.2.2.2.size)⟩) (fun hHeld2 => ?_)
  clear hK K
  replace hHeld := hHeld2
  clear hHeld2
  refine take_op (i := 8) (d := 8) (v := ?_) rfl rfl (by kernel_rfl) (by kernel_rfl) (by kernel_rfl) (fun _ _ _ h => h) (Or.inl ⟨by rfl, ?hy8u73⟩) hHeld ?rest8u73
  case hy8u73 =>
    intro w' hS'
    go_simp
    try with_reducible rfl
  simp only [List.setIfInBounds_toArray, List.set_cons_zero, List.set_cons_succ]
  refine wpAnyH_done (by kernel_rfl) ?_ _
  have hbx := hHeld.2.2.2
  clear hHeld h0 h1 h2 hb
  go_wp2
  go_ret2
  exact ⟨⟨_, rfl, own_nil⟩, hbx⟩

theorem l01Part_h (x : Nat) (fine : Bool) (hx : partB x = fine) (w : World) : Calls Try.prog 61 #[.float .f32 x] w fun e w' => e = .returned (.bool fine) ∧ w = w' := by
  rw [← hx]; exact l01Part_any x w

set_option maxRecDepth 100000 in
set_option maxHeartbeats 1000000 in
theorem specSunHours_no1 (hs ts : List Int) (hh : hs.length = 24) (ht : ts.length = 24) (rb : ∀ x ∈ hs ++ ts, -32768 ≤ x ∧ x ≤ 32767) (facing : Int) (le : Nat) (h3 : inF facing = false) (hk : ¬ (okB hs ts = true ∧ (inF facing && partB le) = true)) (w : World) :
    Calls Try.prog 32 #[.agg (sunC hs ts), .int .i64 facing, .float .f32 le] w (RetList [] (codeB (okB hs ts) (inF facing && partB le)) w) := by
  have Rb := Lib.hid rb
  clear rb
  have e1 : (inF facing && partB le) = false := by rw [h3]; rfl
  have hne := codeB_ne hk
  rw [e1] at hne ⊢
  generalize hc : codeB (okB hs ts) false = c at *
  have Hc := Lib.hid hc
  have Hf := Lib.hid h3
  have Hh := Lib.hid hh
  have Ht := Lib.hid ht
  have hne' : (c != 0) = true := bne_iff_ne.2 hne
  clear hk h3 hc hne e1 hh ht
  go_enter Try.func32, Try.ntmps32
  go_upto_region 1 with (fail)
  refine abs_world (fun W => Below w.heap.size w W ∧ W.heap[w.heap.size]? = some (.cells (sunC hs ts) 51 (0, 0))) ⟨(Below.refl _ _).alloc (Nat.le_refl _) _, heap_alloc_new _ _⟩ ?_
  rintro W ⟨hb, d0⟩
  have D0 := Lib.hid d0
  clear d0
  go_wp2_with (first | (go_at_call 84; refine (l01Faced_is facing false Hf.out _).mono ?_; rintro e w' ⟨rfl, rfl⟩) | (go_at_call 92; refine (l01Asked_is w.heap.size hs ts Hh.out Ht.out Rb.out 51 (0, 0) false c Hc.out _ D0.out).mono ?_; rintro e w' ⟨rfl, rfl⟩))
  go_ret2
  exact ⟨⟨_, rfl, ⟨_, 0, rfl, Nat.zero_le _, Nat.le_refl _, .inr ⟨_, #[], rfl, hb.size, heap_alloc_new _ _, fun k hk => absurd hk (Nat.not_lt_zero k)⟩⟩⟩, hb.alloc hb.size _⟩

set_option maxRecDepth 100000 in
set_option maxHeartbeats 1000000 in
theorem specSunHours_no2 (hs ts : List Int) (hh : hs.length = 24) (ht : ts.length = 24) (rb : ∀ x ∈ hs ++ ts, -32768 ≤ x ∧ x ≤ 32767) (facing : Int) (le : Nat) (h3 : inF facing = true) (hk : ¬ (okB hs ts = true ∧ (inF facing && partB le) = true)) (w : World) :
    Calls Try.prog 32 #[.agg (sunC hs ts), .int .i64 facing, .float .f32 le] w (RetList [] (codeB (okB hs ts) (inF facing && partB le)) w) := by
  have Rb := Lib.hid rb
  clear rb
  have e1 : (inF facing && partB le) = partB le := by rw [h3]; rfl
  have hne := codeB_ne hk
  rw [e1] at hne ⊢
  generalize hp : partB le = p at *
  generalize hc : codeB (okB hs ts) p = c at *
  have Hc := Lib.hid hc
  have Hf := Lib.hid h3
  have Hp := Lib.hid hp
  have Hh := Lib.hid hh
  have Ht := Lib.hid ht
  have hne' : (c != 0) = true := bne_iff_ne.2 hne
  clear hk h3 hc hne e1 hh ht hp
  go_enter Try.func32, Try.ntmps32
  go_upto_region 1 with (fail)
  refine abs_world (fun W => Below w.heap.size w W ∧ W.heap[w.heap.size]? = some (.cells (sunC hs ts) 51 (0, 0))) ⟨(Below.refl _ _).alloc (Nat.le_refl _) _, heap_alloc_new _ _⟩ ?_
  rintro W ⟨hb, d0⟩
  have D0 := Lib.hid d0
  clear d0
  go_wp2_with (first | (go_at_call 84; refine (l01Faced_is facing true Hf.out _).mono ?_; rintro e w' ⟨rfl, rfl⟩) | (go_at_call 61; refine (l01Part_h le p Hp.out _).mono ?_; rintro e w' ⟨rfl, rfl⟩) | (go_at_call 92; refine (l01Asked_is w.heap.size hs ts Hh.out Ht.out Rb.out 51 (0, 0) p c Hc.out _ D0.out).mono ?_; rintro e w' ⟨rfl, rfl⟩))
  go_ret2
  exact ⟨⟨_, rfl, ⟨_, 0, rfl, Nat.zero_le _, Nat.le_refl _, .inr ⟨_, #[], rfl, hb.size, heap_alloc_new _ _, fun k hk => absurd hk (Nat.not_lt_zero k)⟩⟩⟩, hb.alloc hb.size _⟩

set_option maxRecDepth 100000 in
set_option maxHeartbeats 1000000 in
theorem specSunHours_yes (hs ts : List Int) (hh : hs.length = 24) (ht : ts.length = 24) (rb : ∀ x ∈ hs ++ ts, -32768 ≤ x ∧ x ≤ 32767) (facing : Int) (le : Nat) (ho : okB hs ts = true) (h3 : inF facing = true) (hp : partB le = true) (hwl : (Lit.float .f32 le).wf = true) (w : World) :
    Calls Try.prog 32 #[.agg (sunC hs ts), .int .i64 facing, .float .f32 le] w (RetList (wantH (enoH hs ts facing le) (hrs 24)) 0 w) := by
  obtain ⟨i0, hin, hz0, hz1, hz2⟩ := info_parts infoW
  have HO := Lib.hid (fun (k : Int) (h0 : 0 ≤ k) (h24 : k < 24) W hg => l01Fall_any w.heap.size hs ts hh ht k facing h0 h24 (inF_bd h3).1 (inF_bd h3).2 (okB_h hh ht ho k h0 h24).2 (okB_t hh ht ho k h0 h24).1 (okB_t hh ht ho k h0 h24).2 51 (0, 0) W hg)
  have hle : fin32 le = true := by
    rcases betw_zero hwl (by decide) hp with h | rfl
    · exact num_fin (num_of_isNum (.inl (by omega)))
    · decide
  have HR : Hid (∀ x, ∃ o, FloatKind.f32.format.order (fallOf hs ts x facing) le = some o) := fun x => order_some (fallB_fin _ _) hle
  have Hc : Hid (codeB (okB hs ts) true = 0) := by rw [ho]; rfl
  have Hf := Lib.hid h3
  have Hp := Lib.hid hp
  have Hh := Lib.hid hh
  have Ht := Lib.hid ht
  have Rb := Lib.hid rb
  clear ho h3 hp hh ht rb hle hwl
  go_enter Try.func32, Try.ntmps32
  go_upto_region 1 with (fail)
  refine abs_world (fun W => Below w.heap.size w W ∧ W.heap[w.heap.size]? = some (.cells (sunC hs ts) 51 (0, 0))) ⟨(Below.refl _ _).alloc (Nat.le_refl _) _, heap_alloc_new _ _⟩ ?_
  rintro W ⟨hb, d0⟩
  have D0 := Lib.hid d0
  clear d0
  go_upto_region 4 with (first | (go_at_call 84; refine (l01Faced_is facing true Hf.out _).mono ?_; rintro e w' ⟨rfl, rfl⟩) | (go_at_call 61; refine (l01Part_h le true Hp.out _).mono ?_; rintro e w' ⟨rfl, rfl⟩) | (go_at_call 92; refine (l01Asked_is w.heap.size hs ts Hh.out Ht.out Rb.out 51 (0, 0) true 0 Hc.out _ D0.out).mono ?_; rintro e w' ⟨rfl, rfl⟩))
  clear Hc Hf Hp Rb Hh Ht
  go_wp2
  have hrow0 : (W.alloc (.cells #[] 2)).ownsRow w.heap.size 2 1 (.slice (some ⟨W.heap.size, 0, none⟩) 0 0) 0 [] := World.ownsRow_made _ _ _ hb.size (Nat.zero_le _) rfl
  go_loopw [9, 10] (fun o i wr => ∃ (vo : Value) (k : Nat), vo = o ∧ k ≤ 24 ∧ i = .int .i64 (k : Int) ∧ wr.ownsRow w.heap.size 2 1 o (wantH (enoH hs ts facing le) (hrs k)).length ((wantH (enoH hs ts facing le) (hrs k)).map (Value.int .i64)) ∧ Below w.heap.size w wr ∧ wr.heap[w.heap.size]? = some (.cells (sunC hs ts) 51 (0, 0))) (fun _ i _ => (24 - intOf i).toNat)
  case atStart => exact ⟨_, 0, rfl, Nat.zero_le _, rfl, hrow0, hb.alloc hb.size _, below_row ((Below.refl _ _).alloc (Nat.le_refl _) _) D0.out⟩
  case round =>
    clear hrow0 hb D0
    obtain ⟨vo, k, rfl, hk, rfl, hrow2, hbw, d0⟩ := hrel
    have hwl := wantH_len (enoH hs ts facing le) (hrs k)
    rw [hrs_length] at hwl
    by_cases hlt : k < 24
    · have z0 : (0 : Int) ≤ (k : Int) := by omega
      have z1 : (k : Int) < 24 := by omega
      have HX := Lib.hid (HO.out (k : Int) z0 z1)
      obtain ⟨o1, ho1⟩ := HR.out (k : Int)
      have HD := Lib.hid d0
      have HI : Hid (enoH hs ts facing le (hr k).1 = (o1 == .gt || o1 == .eq)) := by
        unfold Hid; rw [hr_val k hlt]; unfold enoH; rw [ho1]; rfl
      clear d0
      generalize fallOf hs ts (k : Int) facing = ps at *
      cases o1
      · have HN : Hid (wantH (enoH hs ts facing le) (hrs (k + 1)) = wantH (enoH hs ts facing le) (hrs k)) := by
          unfold Hid; rw [hrs_succ]; exact wantH_miss _ _ _ HI.out
        go_wp2_with (go_at_call 93; refine (HX.out _ HD.out).mono ?_; rintro e W3 ⟨rfl, hb3⟩; have hrow3 := owns_below hrow2 hb3; have hD3 := Lib.hid (below_row hb3 HD.out); have hbw3 := hbw.trans (hb3.mono hbw.size); have hsz3 := hbw3.size)
        go_roundw
        case rel => exact ⟨_, k + 1, rfl, by omega, by simp, by rw [HN.out]; exact hrow3, hbw3, hD3.out⟩
        case measure => simp [intOf]; omega
      · have HN : Hid (wantH (enoH hs ts facing le) (hrs (k + 1)) = wantH (enoH hs ts facing le) (hrs k) ++ [(k : Int)]) := by
          unfold Hid; rw [hrs_succ, wantH_hit _ _ _ HI.out, hr_val k hlt]
        go_wp2_with (first | (go_at_call 93; refine (HX.out _ HD.out).mono ?_; rintro e W3 ⟨rfl, hb3⟩; have hrow3 := owns_below hrow2 hb3; have hD3 := Lib.hid (below_row hb3 HD.out); have hbw3 := hbw.trans (hb3.mono hbw.size); have hsz3 := hbw3.size) | (at_builtin; refine wpList_append_own _ rfl _ _ 56 rfl w.heap.size 2 i0 (.int .i64 0) 1 8 Try.underlying56 hin hz0 hz1 hz2 rfl (by decide) _ _ _ rfl (hrow3.alloc _) ⟨W3.heap.size, 0, none⟩ 1 1 [.int .i64 (k : Int)] rfl rfl (cell_one_new _ _ _) (by simp [Value.oneCell']) (by unfold maxLen; omega) (by omega) (by simp; omega) ?_; intro v' w1 hown' hgrow _))
        go_roundw
        case rel => exact ⟨_, k + 1, rfl, by omega, by simp, by rw [HN.out]; simpa using hown', (hbw3.alloc (by omega) _).grown hgrow (by simp; omega) (row_base hrow3), kept_append2 hD3.out (by decide) hrow3 hgrow⟩
        case measure => simp [intOf]; omega
      · have HN : Hid (wantH (enoH hs ts facing le) (hrs (k + 1)) = wantH (enoH hs ts facing le) (hrs k) ++ [(k : Int)]) := by
          unfold Hid; rw [hrs_succ, wantH_hit _ _ _ HI.out, hr_val k hlt]
        go_wp2_with (first | (go_at_call 93; refine (HX.out _ HD.out).mono ?_; rintro e W3 ⟨rfl, hb3⟩; have hrow3 := owns_below hrow2 hb3; have hD3 := Lib.hid (below_row hb3 HD.out); have hbw3 := hbw.trans (hb3.mono hbw.size); have hsz3 := hbw3.size) | (at_builtin; refine wpList_append_own _ rfl _ _ 56 rfl w.heap.size 2 i0 (.int .i64 0) 1 8 Try.underlying56 hin hz0 hz1 hz2 rfl (by decide) _ _ _ rfl (hrow3.alloc _) ⟨W3.heap.size, 0, none⟩ 1 1 [.int .i64 (k : Int)] rfl rfl (cell_one_new _ _ _) (by simp [Value.oneCell']) (by unfold maxLen; omega) (by omega) (by simp; omega) ?_; intro v' w1 hown' hgrow _))
        go_roundw
        case rel => exact ⟨_, k + 1, rfl, by omega, by simp, by rw [HN.out]; simpa using hown', (hbw3.alloc (by omega) _).grown hgrow (by simp; omega) (row_base hrow3), kept_append2 hD3.out (by decide) hrow3 hgrow⟩
        case measure => simp [intOf]; omega
    · obtain rfl : k = 24 := by omega
      have HR2 : Hid (Own wr w.heap.size 2 (Value.int .i64) vo (wantH (enoH hs ts facing le) (hrs 24))) := own_of_row hrow2 (by unfold maxLen; omega)
      clear hrow2 d0
      go_wp2
      go_ret2
      exact ⟨⟨_, rfl, HR2.out⟩, hbw⟩


end Go.Proofs.Yteagbfobnjfhcab
