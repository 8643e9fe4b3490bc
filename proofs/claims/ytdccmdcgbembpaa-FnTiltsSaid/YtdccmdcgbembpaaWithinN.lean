/-
  The tilts with which what passes is within bounds: the model's.
-/
import Derived.Test.YtdccmdcgbembpaaWithinI
namespace Go.Proofs.Ytdccmdcgbembpaa
open Go.RowKit

set_option maxRecDepth 100000 in
set_option maxHeartbeats 1000000 in
theorem specWithin_no1 (n : Int) (wd gp : Nat) (t : Int) (sh : Nat) (bw : BlWf n wd gp t sh) (h : Int) (lo hi : Nat) (hh : inI 1 64 h = false) (hk : ¬ (okBl n wd gp t sh = true ∧ fineW h lo hi = true)) (w : World) :
    Calls Try.prog 13 #[.agg (blindC n wd gp t sh), .int .i64 h, .float .f32 lo, .float .f32 hi] w (RetList [] (codeC (okBl n wd gp t sh) (fineW h lo hi)) w) := by
  obtain ⟨N0, N1⟩ := blwf_n bw
  obtain ⟨T0, T1⟩ := blwf_t bw
  have e1 : fineW h lo hi = false := by unfold fineW; rw [hh]; rfl
  have hne := codeC_ne hk
  rw [e1] at hne ⊢
  generalize hc : codeC (okBl n wd gp t sh) false = c at *
  have Hc := Lib.hid hc
  have Hi := Lib.hid hh
  have hne' : (c != 0) = true := bne_iff_ne.2 hne
  clear hk hh hc hne e1 bw
  go_enter Try.func13, Try.ntmps13
  go_upto_region 1 with (fail)
  refine abs_world (fun W => Below w.heap.size w W ∧ W.heap[w.heap.size]? = some (.cells (blindC n wd gp t sh) 28 (0, 0))) ⟨(Below.refl _ _).alloc (Nat.le_refl _) _, heap_alloc_new _ _⟩ ?_
  rintro W ⟨hb, d0⟩
  have D0 := Lib.hid d0
  clear d0
  go_wp2_with (first | (go_at_call 34; refine (l02Up_is h false Hi.out _).mono ?_; rintro e w' ⟨rfl, rfl⟩) | (go_at_call 35; refine (l01Part_w _ _).mono ?_; rintro e w' ⟨rfl, rfl⟩; skip) | (go_at_call 33; refine (l02Asked_is n wd gp t sh T0 T1 N0 N1 w.heap.size _ _ false c Hc.out _ D0.out).mono ?_; rintro e w' ⟨rfl, rfl⟩))
  go_ret2
  exact ⟨⟨_, rfl, ⟨_, 0, rfl, Nat.zero_le _, Nat.le_refl _, .inr ⟨_, #[], rfl, hb.size, heap_alloc_new _ _, fun k hk => absurd hk (Nat.not_lt_zero k)⟩⟩⟩, hb.alloc hb.size _⟩

set_option maxRecDepth 100000 in
set_option maxHeartbeats 1000000 in
theorem specWithin_no2 (n : Int) (wd gp : Nat) (t : Int) (sh : Nat) (bw : BlWf n wd gp t sh) (h : Int) (lo hi : Nat) (hh : inI 1 64 h = true) (hp : partB lo = false) (hk : ¬ (okBl n wd gp t sh = true ∧ fineW h lo hi = true)) (w : World) :
    Calls Try.prog 13 #[.agg (blindC n wd gp t sh), .int .i64 h, .float .f32 lo, .float .f32 hi] w (RetList [] (codeC (okBl n wd gp t sh) (fineW h lo hi)) w) := by
  obtain ⟨N0, N1⟩ := blwf_n bw
  obtain ⟨T0, T1⟩ := blwf_t bw
  have e1 : fineW h lo hi = false := by unfold fineW; rw [hh, hp]; rfl
  have hne := codeC_ne hk
  rw [e1] at hne ⊢
  generalize hc : codeC (okBl n wd gp t sh) false = c at *
  have Hc := Lib.hid hc
  have Hi := Lib.hid hh
  have Hp := Lib.hid hp
  have hne' : (c != 0) = true := bne_iff_ne.2 hne
  clear hk hh hc hne e1 hp bw
  go_enter Try.func13, Try.ntmps13
  go_upto_region 1 with (fail)
  refine abs_world (fun W => Below w.heap.size w W ∧ W.heap[w.heap.size]? = some (.cells (blindC n wd gp t sh) 28 (0, 0))) ⟨(Below.refl _ _).alloc (Nat.le_refl _) _, heap_alloc_new _ _⟩ ?_
  rintro W ⟨hb, d0⟩
  have D0 := Lib.hid d0
  clear d0
  go_wp2_with (first | (go_at_call 34; refine (l02Up_is h true Hi.out _).mono ?_; rintro e w' ⟨rfl, rfl⟩) | (go_at_call 35; refine (l01Part_w _ _).mono ?_; rintro e w' ⟨rfl, rfl⟩; rw [Hp.out]) | (go_at_call 33; refine (l02Asked_is n wd gp t sh T0 T1 N0 N1 w.heap.size _ _ false c Hc.out _ D0.out).mono ?_; rintro e w' ⟨rfl, rfl⟩))
  go_ret2
  exact ⟨⟨_, rfl, ⟨_, 0, rfl, Nat.zero_le _, Nat.le_refl _, .inr ⟨_, #[], rfl, hb.size, heap_alloc_new _ _, fun k hk => absurd hk (Nat.not_lt_zero k)⟩⟩⟩, hb.alloc hb.size _⟩

set_option maxRecDepth 100000 in
set_option maxHeartbeats 1000000 in
theorem specWithin_no3 (n : Int) (wd gp : Nat) (t : Int) (sh : Nat) (bw : BlWf n wd gp t sh) (h : Int) (lo hi : Nat) (hh : inI 1 64 h = true) (hp : partB lo = true) (hk : ¬ (okBl n wd gp t sh = true ∧ fineW h lo hi = true)) (w : World) :
    Calls Try.prog 13 #[.agg (blindC n wd gp t sh), .int .i64 h, .float .f32 lo, .float .f32 hi] w (RetList [] (codeC (okBl n wd gp t sh) (fineW h lo hi)) w) := by
  obtain ⟨N0, N1⟩ := blwf_n bw
  obtain ⟨T0, T1⟩ := blwf_t bw
  have e1 : fineW h lo hi = partB hi := by unfold fineW; rw [hh, hp]; rfl
  have hne := codeC_ne hk
  rw [e1] at hne ⊢
  generalize hq : partB hi = q at *
  generalize hc : codeC (okBl n wd gp t sh) q = c at *
  have Hc := Lib.hid hc
  have Hi := Lib.hid hh
  have Hp := Lib.hid hp
  have Hq := Lib.hid hq
  have hne' : (c != 0) = true := bne_iff_ne.2 hne
  clear hk hh hc hne e1 hp hq bw
  go_enter Try.func13, Try.ntmps13
  go_upto_region 1 with (fail)
  refine abs_world (fun W => Below w.heap.size w W ∧ W.heap[w.heap.size]? = some (.cells (blindC n wd gp t sh) 28 (0, 0))) ⟨(Below.refl _ _).alloc (Nat.le_refl _) _, heap_alloc_new _ _⟩ ?_
  rintro W ⟨hb, d0⟩
  have D0 := Lib.hid d0
  clear d0
  go_wp2_with (first | (go_at_call 34; refine (l02Up_is h true Hi.out _).mono ?_; rintro e w' ⟨rfl, rfl⟩) | (go_at_call 35; refine (l01Part_w _ _).mono ?_; rintro e w' ⟨rfl, rfl⟩; first | rw [Hp.out] | rw [Hq.out]) | (go_at_call 33; refine (l02Asked_is n wd gp t sh T0 T1 N0 N1 w.heap.size _ _ q c Hc.out _ D0.out).mono ?_; rintro e w' ⟨rfl, rfl⟩))
  go_ret2
  exact ⟨⟨_, rfl, ⟨_, 0, rfl, Nat.zero_le _, Nat.le_refl _, .inr ⟨_, #[], rfl, hb.size, heap_alloc_new _ _, fun k hk => absurd hk (Nat.not_lt_zero k)⟩⟩⟩, hb.alloc hb.size _⟩

end Go.Proofs.Ytdccmdcgbembpaa
