/-
  The mean of the light of all tiles of a room: the model.
-/
import Derived.Test.YtmniodfdoidffaaDoorEtE
import Derived.Test.YtmniodfdoidffaaDoorEtH
namespace Go.Proofs.YtmniodfdoidffaaDoor
open Go.ChangeShapes Go.WideShapes Go.ChangeAt Go.RowKit Go.Deep Go.Joins

attribute [local go_sem] run_store_floatE

set_option maxRecDepth 100000 in
set_option maxHeartbeats 2000000 in
theorem sMean_n (wd hg : Int) (iw : I8 wd) (ih : I8 hg) (sv : Value) (ws : List Wn) (hwf : ∀ x ∈ ws, WnWf x) (w : World) (hws : WinsAt w sv ws) (hv : okRm wd hg ws = false) :
    Calls Tryd.prog 31 #[.agg (roomC wd hg sv)] w fun e w' => e = .returned (.tuple #[.float .f32 0, .int .i64 1]) ∧ Below w.heap.size w w' := by
  have HOK : Hid (∀ V, V.heap[w.heap.size]? = some (.cells (roomC wd hg sv) 44 (0, 0)) → WinsAt V sv ws → Calls Tryd.prog 67 #[.pointer (some ⟨w.heap.size, 0, none⟩)] V fun e w' => e = .returned (.bool false) ∧ Below V.heap.size V w') := Lib.hid (fun V q h => by have := l03Ok_any wd hg iw ih sv ws hwf w.heap.size 44 (0, 0) V q h; rw [hv] at this; exact this)
  have HW := Lib.hid hws
  clear hws hv hwf iw ih
  go_enter Tryd.func31, Tryd.ntmps31
  go_upto_region 1 with (fail)
  refine abs_world (fun V => V.heap[w.heap.size]? = some (.cells (roomC wd hg sv) 44 (0, 0)) ∧ Below w.heap.size w V) ⟨heap_alloc_new _ _, (Below.refl _ _).alloc (Nat.le_refl _) _⟩ ?_
  rintro V ⟨h0, hb⟩
  have H0 := Lib.hid h0
  have HV := Lib.hid (wins_below HW.out hb)
  clear h0
  go_wp2_with (first | (go_at_call 67; refine (HOK.out _ H0.out HV.out).mono ?_; rintro e W1 ⟨rfl, hb1⟩; replace H0 := Lib.hid (below_row hb1 H0.out); replace HV := Lib.hid (wins_below HV.out hb1); replace hb := hb.trans (hb1.mono hb.size); clear hb1))
  go_ret2
  exact ⟨rfl, hb⟩

set_option maxRecDepth 100000 in
set_option maxHeartbeats 8000000 in
theorem sMean_y (W H : Nat) (hW : 0 < W) (hH : 0 < H) (sv : Value) (ws : List Wn) (hwf : ∀ x ∈ ws, WnWf x) (g : Int × Int → Nat) (hgd : g = fun t => litW (W : Int) (H : Int) t (fun _ => true) ws) (hcap : ∀ x y : Nat, x < W → y < H → g ((x : Int), (y : Int)) ≤ floatOfInt .f32 (12 : Int)) (gk : Nat → Nat) (hgk : gk = fun k => g (tk W H hW hH k).1) (w : World) (hws : WinsAt w sv ws) (hv : okRm (W : Int) (H : Int) ws = true) :
    Calls Tryd.prog 31 #[.agg (roomC (W : Int) (H : Int) sv)] w fun e w' => e = .returned (.tuple #[.float .f32 (meanM (sumM gk (W * H)) (W * H)), .int .i64 0]) ∧ Below w.heap.size w w' := by
  have ok := okRm_get hv
  have hW1 : W ≤ 10 := by have := ok.w1; omega
  have hH1 : H ≤ 10 := by have := ok.h1; omega
  have iw : I8 (W : Int) := by unfold I8; omega
  have ih : I8 (H : Int) := by unfold I8; omega
  have HOK : Hid (∀ V, V.heap[w.heap.size]? = some (.cells (roomC (W : Int) (H : Int) sv) 44 (0, 0)) → WinsAt V sv ws → Calls Tryd.prog 67 #[.pointer (some ⟨w.heap.size, 0, none⟩)] V fun e w' => e = .returned (.bool true) ∧ Below V.heap.size V w') := Lib.hid (fun V q h => by have := l03Ok_any (W : Int) (H : Int) iw ih sv ws hwf w.heap.size 44 (0, 0) V q h; rw [hv] at this; exact this)
  have HTI : Hid (∀ V, V.heap[w.heap.size]? = some (.cells (roomC (W : Int) (H : Int) sv) 44 (0, 0)) → Calls Tryd.prog 68 #[.pointer (some ⟨w.heap.size, 0, none⟩)] V fun e w' => (∃ v, e = .returned v ∧ w'.ownsRow V.heap.size 100 2 v (W * H) (tC W (W * H))) ∧ Below V.heap.size V w') := Lib.hid (fun V q => l03Tiles_any W H hW hW1 hH1 sv w.heap.size V q)
  have HLT : Hid (∀ (a1 a2 : Int), inRoom (W : Int) (H : Int) (a1, a2) → ∀ V, V.heap[w.heap.size]? = some (.cells (roomC (W : Int) (H : Int) sv) 44 (0, 0)) → WinsAt V sv ws → Calls Tryd.prog 69 #[.pointer (some ⟨w.heap.size, 0, none⟩), .agg (tileC a1 a2)] V fun e V' => e = .returned (.float .f32 (g (a1, a2))) ∧ Below V.heap.size V V') := by
    rw [hgd]
    exact fun a1 a2 ha V q hV => l03Light_any (W : Int) (H : Int) sv ws ok hwf a1 a2 ha w.heap.size 44 (0, 0) V q hV
  have HW := Lib.hid hws
  have hn0 : 0 < W * H := Nat.mul_pos hW hH
  have hn1 : W * H ≤ 100 := Nat.mul_le_mul hW1 hH1
  have HSP := Lib.hid (fun k (hk : k < W * H) => tk_split W H hW hH hk)
  have HCP := Lib.hid hcap
  have HGK : Hid (∀ x y k : Nat, (tk W H hW hH k).1 = ((x : Int), (y : Int)) → gk k = g ((x : Int), (y : Int))) := by rw [hgk]; exact fun x y k e => by show g (tk W H hW hH k).1 = _; rw [e]
  have hcg : ∀ j, j < W * H → gk j ≤ floatOfInt .f32 (12 : Int) := by
    intro j hj
    obtain ⟨x, y, hx, hy, -, e⟩ := tk_split W H hW hH hj
    rw [hgk]
    show g (tk W H hW hH j).1 ≤ _
    rw [e]
    exact hcap x y hx hy
  have HSC := Lib.hid (fun k (hk : k ≤ W * H) => sumM_cap gk k (by omega) (fun j hj => hcg j (by omega)))
  have HSA := Lib.hid (fun k (hk : k < W * H) => (sumM_step (sumM_cap gk k (by omega) (fun j hj => hcg j (by omega))) (by omega) (hcg k hk)).1)
  have hmq := (meanM_ok (sumM_cap gk (W * H) hn1 hcg) hn1 hn0 hn1).1
  have HMQ := Lib.hid hmq
  clear hws hv hwf iw ih ok hgd hcap hgk hcg hmq
  go_enter Tryd.func31, Tryd.ntmps31
  go_upto_region 1 with (fail)
  refine abs_world (fun V => V.heap[w.heap.size]? = some (.cells (roomC (W : Int) (H : Int) sv) 44 (0, 0)) ∧ Below w.heap.size w V) ⟨heap_alloc_new _ _, (Below.refl _ _).alloc (Nat.le_refl _) _⟩ ?_
  rintro V ⟨h0, hb⟩
  have H0 := Lib.hid h0
  have HV := Lib.hid (wins_below HW.out hb)
  clear h0
  go_upto_region 5 with (first | (go_at_call 67; refine (HOK.out _ H0.out HV.out).mono ?_; rintro e W1 ⟨rfl, hb1⟩; replace H0 := Lib.hid (below_row hb1 H0.out); replace HV := Lib.hid (wins_below HV.out hb1); replace hb := hb.trans (hb1.mono hb.size); clear hb1) | (go_at_call 68; have l0 := row_lt H0.out; refine (HTI.out _ H0.out).mono ?_; rintro e W1 ⟨⟨v, rfl, hv0⟩, hb1⟩; have HV0 := Lib.hid hv0; clear hv0; replace H0 := Lib.hid (below_row hb1 H0.out); replace HV := Lib.hid (wins_below HV.out hb1); replace hb := hb.trans (hb1.mono hb.size); clear hb1))
  rcases HV0.out.2 with ⟨_, hz⟩ | ⟨gs, cap, cur, rfl, hbg, hg, hnc, hcm, hsz, htk⟩
  · omega
  have hgs0 : w.heap.size < gs := by omega
  have HT := Lib.hid hg
  have HTK := Lib.hid htk
  clear hg htk hbg l0 HV0 HOK HTI hsz
  go_wp2
  go_loopw [4, 6] (fun s i wr => ∃ k : Nat, k ≤ W * H ∧ i = .int .i64 (k : Int) ∧ s = .float .f32 (sumM gk k) ∧ wr.heap[w.heap.size]? = some (.cells (roomC (W : Int) (H : Int) sv) 44 (0, 0)) ∧ TilesAt wr gs cur ∧ Below w.heap.size w wr) (fun _ i _ => (W * H : Nat) - (intOf i).toNat)
  case atStart => exact ⟨0, Nat.zero_le _, rfl, rfl, H0.out, HT.out, hb⟩
  case round =>
    clear H0 HV HT hb
    obtain ⟨k, hk, rfl, rfl, h0, ht, hb⟩ := hrel
    have H0 := Lib.hid h0
    have HT := Lib.hid ht
    have HV := Lib.hid (wins_below HW.out hb)
    clear h0 ht
    by_cases hlt : k < W * H
    · obtain ⟨x, y, hx, hy, hkk, htt⟩ := HSP.out k hlt
      have hgv := HGK.out x y k htt
      have hadd := HSA.out k hlt
      have HLA := Lib.hid (HLT.out (x : Int) (y : Int) ⟨by show (0 : Int) ≤ (x : Int); omega, by show (x : Int) < (W : Int); omega, by show (0 : Int) ≤ (y : Int); omega, by show (y : Int) < (H : Int); omega⟩)
      rw [← hgv] at HLA
      have HGT := Lib.hid (fun V (h : TilesAt V gs cur) => tiles_get h HTK.out hW hx (by rw [← hkk]; exact hlt))
      rw [← hkk] at HGT
      rw [← sumM_succ] at hadd
      have radd : ∀ T w, (binOp .add T (.float .f32 (sumM gk k)) (.float .f32 (gk k))).run Tryd.prog w = .ok (.float .f32 (sumM gk (k + 1))) w := fun T w => run_float_arith w .add T .f32 _ _ _ hadd
      have z1 : (k : Int) < ((W * H : Nat) : Int) := by omega
      have z2 : (0 : Int) ≤ (k : Int) := by omega
      clear hkk htt hgv hadd HSP HGK HLT HSA HSC HMQ HCP
      generalize hnn : W * H = nn at *
      clear hnn
      go_wp2_with (first | (refine wpList_load_part rfl 100 _ rfl gs (k * 2) 2 rfl 100 cur (0, 0) _ HT.out Tryd.underlying100 rfl info_tile (HGT.out _ HT.out).2.2.2 (tileC (x : Int) (y : Int)) (HGT.out _ HT.out).2.2.1 ?_) | (go_at_call 69; refine (HLA.out _ H0.out HV.out).mono ?_; rintro e W2 ⟨rfl, hb2⟩; replace H0 := Lib.hid (below_row hb2 H0.out); replace HT := Lib.hid (below_row hb2 HT.out); replace hb := hb.trans (hb2.mono hb.size); clear hb2))
      go_roundw
      case rel => exact ⟨k + 1, by omega, by first | (simp; done) | (simp; omega), by trivial, H0.out, HT.out, hb⟩
      case measure => simp [intOf]; omega
    · obtain rfl : k = W * H := by omega
      have rq : ∀ T w, (binOp .quo T (.float .f32 (sumM gk (W * H))) (.float .f32 (floatOfInt .f32 ((W * H : Nat) : Int)))).run Tryd.prog w = .ok (.float .f32 (meanM (sumM gk (W * H)) (W * H))) w := fun T w => run_float_arith w .quo T .f32 _ _ _ HMQ.out
      have rq2 := rq
      rw [Int.natCast_mul] at rq2
      have z1 : ¬ (((W * H : Nat) : Int) < ((W * H : Nat) : Int)) := Int.lt_irrefl _
      clear hlt hk HSP HGK HLT HSA HSC HMQ HCP
      go_wp2
      go_ret2
      exact ⟨rfl, hb⟩

end Go.Proofs.YtmniodfdoidffaaDoor
