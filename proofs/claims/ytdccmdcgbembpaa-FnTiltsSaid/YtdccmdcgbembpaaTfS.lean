/-
  The tilt that passes nearest to what is wanted: the model, and what the program refuses.
-/
import Derived.Test.YtdccmdcgbembpaaTfP
import Derived.Test.YtdccmdcgbembpaaBfn
import Derived.Test.YtdccmdcgbembpaaBhd
import Derived.Test.YtdccmdcgbembpaaGenL
namespace Go.Proofs.Ytdccmdcgbembpaa
open Go.ChangeShapes Go.WideShapes Go.ChangeAt Go.RowKit Go.Deep Go.Joins

attribute [local go_sem] run_store_f

theorem isPart_iT (x : Nat) (fine : Bool) (hi : partB x = fine) (w : World) : Calls Try.prog 28 #[.float .f32 x] w fun e w' => e = .returned (.bool fine) ∧ w = w' := by subst hi; exact isPart_any x w
theorem l01Part_iT (x : Nat) (fine : Bool) (hi : partB x = fine) (w : World) : Calls Try.prog 35 #[.float .f32 x] w fun e w' => e = .returned (.bool fine) ∧ w = w' := by subst hi; exact l01Part_any x w
theorem blok_tiltT (n : Int) (wd gp : Nat) (t : Int) (sh : Nat) {x : Int} (ok : BlOk n wd gp t sh) (x0 : -64 ≤ x) (x1 : x ≤ 64) : BlOk n wd gp x sh :=
  ⟨ok.1, ok.2.1, ok.2.2.1, ok.2.2.2.1, ok.2.2.2.2.1, ok.2.2.2.2.2.1, x0, x1, ok.2.2.2.2.2.2.2.2⟩
set_option maxRecDepth 100000 in
set_option maxHeartbeats 1000000 in
theorem sTF_no (n : Int) (wd gp : Nat) (t : Int) (sh : Nat) (bw : BlWf n wd gp t sh) (h : Int) (want : Nat) (w : World) (hk : ¬ (okBl n wd gp t sh = true ∧ fineT h want = true)) :
    Calls Try.prog 9 #[.agg (blindC n wd gp t sh), .int .i64 h, .float .f32 want] w fun e w' => e = .returned (.tuple #[.int .i64 0, .float .f32 0, .int .i64 (codeC (okBl n wd gp t sh) (fineT h want))]) ∧ Below w.heap.size w w' := by
  obtain ⟨T0, T1⟩ := blwf_t bw
  obtain ⟨N0, N1⟩ := blwf_n bw
  have hne := codeC_ne hk
  cases hi : inI 1 64 h with
  | true =>
    have e1 : fineT h want = partB want := by unfold fineT; rw [hi]; rfl
    rw [e1] at hne hk ⊢
    generalize hp : partB want = p at *
    generalize hc : codeC (okBl n wd gp t sh) p = c at *
    have Hc := Lib.hid hc
    have Hi := Lib.hid hi
    have Hp := Lib.hid hp
    have hne' : (c != 0) = true := bne_iff_ne.2 hne
    clear hk hi hp hc hne e1 bw
    go_enter Try.func9, Try.ntmps9
    go_wp2_with (first | (go_at_call 34; refine (l02Up_is h true Hi.out _).mono ?_; rintro e w' ⟨rfl, rfl⟩) | (go_at_call 35; refine (l01Part_iT want p Hp.out _).mono ?_; rintro e w' ⟨rfl, rfl⟩) | (go_at_call 33; refine (l02Asked_is n wd gp t sh T0 T1 N0 N1 w.heap.size _ _ p c Hc.out _ (heap_alloc_new _ _)).mono ?_; rintro e w' ⟨rfl, rfl⟩))
    go_ret3
    exact ⟨rfl, (Below.refl _ _).alloc (Nat.le_refl _) _⟩
  | false =>
    have e1 : fineT h want = false := by unfold fineT; rw [hi]; rfl
    rw [e1] at hne hk ⊢
    generalize hc : codeC (okBl n wd gp t sh) false = c at *
    have Hc := Lib.hid hc
    have Hi := Lib.hid hi
    have hne' : (c != 0) = true := bne_iff_ne.2 hne
    clear hk hi hc hne e1 bw
    go_enter Try.func9, Try.ntmps9
    go_wp2_with (first | (go_at_call 34; refine (l02Up_is h false Hi.out _).mono ?_; rintro e w' ⟨rfl, rfl⟩) | (go_at_call 33; refine (l02Asked_is n wd gp t sh T0 T1 N0 N1 w.heap.size _ _ false c Hc.out _ (heap_alloc_new _ _)).mono ?_; rintro e w' ⟨rfl, rfl⟩))
    go_ret3
    exact ⟨rfl, (Below.refl _ _).alloc (Nat.le_refl _) _⟩

set_option maxRecDepth 100000 in
set_option maxHeartbeats 8000000 in
theorem sTF_yes (n : Int) (wd gp : Nat) (t : Int) (sh : Nat) (bw : BlWf n wd gp t sh) (h : Int) (want : Nat) (hww : (Lit.float .f32 want).wf = true) (w : World) (hk : okBl n wd gp t sh = true) (hi : inI 1 64 h = true) (hp : partB want = true) :
    Calls Try.prog 9 #[.agg (blindC n wd gp t sh), .int .i64 h, .float .f32 want] w fun e w' => e = .returned (.tuple #[.int .i64 ((firstMin (dT wd gp sh h want) 128 : Nat) - 64 : Int), .float .f32 (pT wd gp sh h (firstMin (dT wd gp sh h want) 128)), .int .i64 0]) ∧ Below w.heap.size w w' := by
  obtain ⟨T0, T1⟩ := blwf_t bw
  obtain ⟨N0, N1⟩ := blwf_n bw
  obtain ⟨h0, h1⟩ := inI_get hi
  have OK := blok_of bw hk
  have WP : PartOk want := part_get hww hp
  have HO := Lib.hid (fun (x : Int) (x0 : -64 ≤ x) (x1 : x ≤ 64) W hg => l02Pass_any n wd gp x sh (blok_tiltT n wd gp t sh OK x0 x1) h h0 h1 w.heap.size 28 (0, 0) W hg)
  have HS := Lib.hid (fun x => dT_sub wd gp OK.2.2.2.2.2.2.2.2 h WP x)
  obtain ⟨d, hd⟩ : ∃ d, d = dT wd gp sh h want := ⟨_, rfl⟩
  have HDN : Hid (∀ k, isNum (d k)) := by subst hd; exact fun k => dT_num wd gp OK.2.2.2.2.2.2.2.2 h WP k
  have HDA : Hid (∀ (k : Nat) (x : Int), x = (k : Int) - 64 → sizeB (fsub (pasB wd gp x sh h) want) = d k) := by
    subst hd; intro k x hx; subst hx; rfl
  obtain ⟨q, hq⟩ : ∃ q, q = pT wd gp sh h := ⟨_, rfl⟩
  have HPA : Hid (∀ (k : Nat) (x : Int), x = (k : Int) - 64 → pasB wd gp x sh h = q k) := by
    subst hq; intro k x hx; subst hx; rfl
  rw [← hd, ← hq]
  have Hc : Hid (codeC (okBl n wd gp t sh) true = 0) := by rw [hk]; rfl
  have Hi := Lib.hid hi
  have Hp := Lib.hid hp
  clear OK h0 h1 hk hi hp bw hd hq hww WP
  go_enter Try.func9, Try.ntmps9
  go_upto_region 1 with (fail)
  refine abs_world (fun W => Below w.heap.size w W ∧ W.heap[w.heap.size]? = some (.cells (blindC n wd gp t sh) 28 (0, 0))) ⟨(Below.refl _ _).alloc (Nat.le_refl _) _, heap_alloc_new _ _⟩ ?_
  rintro W ⟨hb, h0⟩
  have H0 := Lib.hid h0
  clear h0
  obtain ⟨k0, k1, k2, k3, k4⟩ := blind_cells H0.out
  have kf := frozen_of_row W w.heap.size 3 _ _ H0.out
  go_upto_region 6 with (first | (go_at_call 34; refine (l02Up_is h true Hi.out _).mono ?_; rintro e w' ⟨rfl, rfl⟩) | (go_at_call 35; refine (l01Part_iT want true Hp.out _).mono ?_; rintro e w' ⟨rfl, rfl⟩) | (go_at_call 33; refine (l02Asked_is n wd gp t sh T0 T1 N0 N1 w.heap.size _ _ true 0 Hc.out _ H0.out).mono ?_; rintro e w' ⟨rfl, rfl⟩))
  refine abs_world (fun V => Below w.heap.size w V ∧ V.heap[w.heap.size]? = some (.cells (blindC n wd gp (-64) sh) 28 (0, 0))) ⟨hb.setCell (p := ⟨w.heap.size, 3, none⟩) (Nat.le_refl _) _, by rw [heap_setCell_same _ _ _ _ _ _ H0.out]; rfl⟩ ?_
  clear hb H0 k0 k1 k2 k3 k4 kf Hc Hi Hp
  rintro V ⟨hb, d0⟩
  have HD0 := Lib.hid d0
  clear d0
  have HX0 := Lib.hid (HO.out (-64) (by decide) (by decide))
  have e0 := HDA.out 0 (-64) (by decide)
  have eq0 := HPA.out 0 (-64) (by decide)
  obtain ⟨s1, s2⟩ := HS.out (-64)
  rw [eq0] at e0 s1 s2 HX0
  have HZ0 := Lib.hid (fun w => l01Size_any (fsub (q 0) want) s2 w)
  rw [e0] at HZ0
  have r0 : ∀ T w, (binOp .sub T (.float .f32 (q 0)) (.float .f32 want)).run Try.prog w = .ok (.float .f32 (fsub (q 0) want)) w := fun T w => run_float_arith w .sub T .f32 _ _ _ s1
  clear e0 eq0 s1 s2
  go_upto_region 9 with (first | (go_at_call 36; refine (HX0.out _ HD0.out).mono ?_; rintro e W3 ⟨rfl, hb3⟩; replace HD0 := Lib.hid (below_row hb3 HD0.out); replace hb := hb.trans (hb3.mono hb.size); clear hb3) | (go_at_call 37; refine (HZ0.out _).mono ?_; rintro e w' ⟨rfl, rfl⟩))
  clear HX0 HZ0 r0
  go_loopw [10, 11, 12, 13] (fun b p o i wr => ∃ (k : Nat) (x t' : Int), 1 ≤ k ∧ k ≤ 129 ∧ x = (k : Int) - 64 ∧ i = .int .i64 x ∧ b = .int .i64 ((firstMin d (k - 1) : Nat) - 64 : Int) ∧ p = .float .f32 (q (firstMin d (k - 1))) ∧ o = .float .f32 (d (firstMin d (k - 1))) ∧ Below w.heap.size w wr ∧ wr.heap[w.heap.size]? = some (.cells (blindC n wd gp t' sh) 28 (0, 0))) (fun _ _ _ i _ => (65 - intOf i).toNat)
  case atStart => exact ⟨1, -63, -64, by omega, by omega, by decide, rfl, rfl, rfl, rfl, hb, HD0.out⟩
  case round =>
    clear hb HD0
    obtain ⟨k, x, t', hk1, hk2, hx, rfl, rfl, rfl, rfl, hb, d0⟩ := hrel
    by_cases hlt : k ≤ 128
    · obtain ⟨j, rfl⟩ : ∃ j, k = j + 1 := ⟨k - 1, by omega⟩
      rw [Nat.add_sub_cancel] at *
      have z0 : (-64 : Int) ≤ x := by omega
      have z1 : x ≤ 64 := by omega
      have HX := Lib.hid (HO.out x z0 z1)
      have HDK := Lib.hid (HDA.out (j + 1) x hx)
      have HPK := Lib.hid (HPA.out (j + 1) x hx)
      obtain ⟨s1, s2⟩ := HS.out x
      have HZ2 := Lib.hid (fun w => l01Size_any (fsub (pasB wd gp x sh h) want) s2 w)
      have r1 : ∀ T w, (binOp .sub T (.float .f32 (pasB wd gp x sh h)) (.float .f32 want)).run Try.prog w = .ok (.float .f32 (fsub (pasB wd gp x sh h) want)) w := fun T w => run_float_arith w .sub T .f32 _ _ _ s1
      have hord := order_cases (HDN.out (j + 1)) (HDN.out (firstMin d j))
      rw [← HDK.out] at hord
      have HM : Hid (_ ∧ _) := Lib.hid (And.intro (@firstMin_hit d j) (@firstMin_miss d j))
      rw [← HDK.out] at HM
      have HXX := Lib.hid hx
      obtain ⟨k0, k1, k2, k3, k4⟩ := blind_cells d0
      have kf := frozen_of_row wr w.heap.size 3 _ _ d0
      have D0 := Lib.hid d0
      clear d0 hx s1 s2
      generalize sizeB (fsub (pasB wd gp x sh h) want) = dd at *
      generalize fsub (pasB wd gp x sh h) want = df at *
      generalize pasB wd gp x sh h = p at *
      go_upto_region 12 with (fail)
      refine abs_world (fun V => Below w.heap.size w V ∧ V.heap[w.heap.size]? = some (.cells (blindC n wd gp x sh) 28 (0, 0))) ⟨hb.setCell (p := ⟨w.heap.size, 3, none⟩) (Nat.le_refl _) _, by rw [heap_setCell_same _ _ _ _ _ _ D0.out]; rfl⟩ ?_
      clear hb D0 k0 k1 k2 k3 k4 kf
      rintro V2 ⟨hb, d2⟩
      have HD2 := Lib.hid d2
      clear d2
      rcases hord with ⟨ho, hm⟩ | ⟨ho, hm⟩ | ⟨ho, hm⟩
      · have HF := Lib.hid (HM.out.1 hm)
        clear HM
        clear hm
        generalize firstMin d j = m at *
        go_wp2_with (first | (go_at_call 36; refine (HX.out _ HD2.out).mono ?_; rintro e W3 ⟨rfl, hb3⟩; replace HD2 := Lib.hid (below_row hb3 HD2.out); replace hb := hb.trans (hb3.mono hb.size); clear hb3) | (go_at_call 37; refine (HZ2.out _).mono ?_; rintro e w' ⟨rfl, rfl⟩))
        go_roundw
        case rel => exact ⟨j + 1 + 1, x + 1, x, by omega, by omega, by have := HXX.out; omega, by go_num, by rw [Nat.add_sub_cancel, HF.out, HXX.out], by rw [Nat.add_sub_cancel, HF.out, HPK.out], by rw [Nat.add_sub_cancel, HF.out, HDK.out], hb, HD2.out⟩
        case measure => simp [intOf]; omega
      · have HF := Lib.hid (HM.out.2 hm)
        clear HM
        clear hm
        generalize firstMin d j = m at *
        go_wp2_with (first | (go_at_call 36; refine (HX.out _ HD2.out).mono ?_; rintro e W3 ⟨rfl, hb3⟩; replace HD2 := Lib.hid (below_row hb3 HD2.out); replace hb := hb.trans (hb3.mono hb.size); clear hb3) | (go_at_call 37; refine (HZ2.out _).mono ?_; rintro e w' ⟨rfl, rfl⟩))
        go_roundw
        case rel => exact ⟨j + 1 + 1, x + 1, x, by omega, by omega, by have := HXX.out; omega, by go_num, by rw [Nat.add_sub_cancel, HF.out], by rw [Nat.add_sub_cancel, HF.out], by rw [Nat.add_sub_cancel, HF.out], hb, HD2.out⟩
        case measure => simp [intOf]; omega
      · have HF := Lib.hid (HM.out.2 hm)
        clear HM
        clear hm
        generalize firstMin d j = m at *
        go_wp2_with (first | (go_at_call 36; refine (HX.out _ HD2.out).mono ?_; rintro e W3 ⟨rfl, hb3⟩; replace HD2 := Lib.hid (below_row hb3 HD2.out); replace hb := hb.trans (hb3.mono hb.size); clear hb3) | (go_at_call 37; refine (HZ2.out _).mono ?_; rintro e w' ⟨rfl, rfl⟩))
        go_roundw
        case rel => exact ⟨j + 1 + 1, x + 1, x, by omega, by omega, by have := HXX.out; omega, by go_num, by rw [Nat.add_sub_cancel, HF.out], by rw [Nat.add_sub_cancel, HF.out], by rw [Nat.add_sub_cancel, HF.out], hb, HD2.out⟩
        case measure => simp [intOf]; omega
    · obtain rfl : k = 129 := by omega
      obtain rfl : x = 65 := by omega
      clear d0
      go_wp2
      go_ret3
      exact ⟨rfl, hb⟩

end Go.Proofs.Ytdccmdcgbembpaa
