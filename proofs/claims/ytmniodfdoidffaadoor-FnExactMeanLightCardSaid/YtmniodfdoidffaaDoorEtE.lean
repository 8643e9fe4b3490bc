/-
  The light of all tiles of a room: the model's walk over them.
-/
import Derived.Test.YtmniodfdoidffaaDoorEtD
namespace Go.Proofs.YtmniodfdoidffaaDoor
open Go.ChangeShapes Go.WideShapes Go.ChangeAt Go.RowKit Go.Deep Go.Joins

attribute [local go_sem] run_store_floatE

theorem tC_len (W : Nat) : ∀ n, (tC W n).length = n * 2
  | 0 => rfl
  | n + 1 => by
    have h := tC_len W n
    unfold tC at h ⊢
    rw [List.range_succ, List.flatMap_append, List.length_append, h]
    simp
    omega

theorem tC_get (W : Nat) : ∀ n k, k < n → (tC W n)[k * 2]? = some (.int .i8 ((k % W : Nat) : Int)) ∧ (tC W n)[k * 2 + 1]? = some (.int .i8 ((k / W : Nat) : Int))
  | 0, k, h => absurd h (Nat.not_lt_zero k)
  | n + 1, k, h => by
    have hs : tC W (n + 1) = tC W n ++ [.int .i8 ((n % W : Nat) : Int), .int .i8 ((n / W : Nat) : Int)] := by
      unfold tC
      rw [List.range_succ, List.flatMap_append, List.flatMap_cons, List.flatMap_nil, List.append_nil]
    have hl := tC_len W n
    rw [hs]
    by_cases e : k = n
    · subst e
      constructor
      · rw [List.getElem?_append_right (by omega), hl, Nat.sub_self]; rfl
      · rw [List.getElem?_append_right (by omega), hl, Nat.add_sub_cancel_left]; rfl
    · have ih := tC_get W n k (by omega)
      rw [List.getElem?_append_left (by omega), List.getElem?_append_left (by omega)]
      exact ih

theorem ext_two {cur : Array Value} {i : Nat} {a b : Value} (ha : cur[i]? = some a) (hb : cur[i + 1]? = some b) : cur.extract i (i + 2) = #[a, b] := by
  obtain ⟨h1, e1⟩ := Array.getElem?_eq_some_iff.1 ha
  obtain ⟨h2, e2⟩ := Array.getElem?_eq_some_iff.1 hb
  apply Array.ext
  · simp; omega
  · intro j h3 h4
    rw [Array.getElem_extract]
    match j, h4 with
    | 0, _ => simpa using e1
    | 1, _ => simpa using e2

/-- A list of tiles that lies in a block. -/
def TilesAt (V : World) (gs : Nat) (cur : Array Value) : Prop := V.heap[gs]? = some (.cells cur 100 (0, 0))

theorem tiles_get {V : World} {gs W n : Nat} {cur : Array Value} (h : TilesAt V gs cur) (ht : cur.toList.take (n * 2) = tC W n) (hW : 0 < W) {x y : Nat} (hx : x < W) (hk : y * W + x < n) :
    V.cell? ⟨gs, (y * W + x) * 2, none⟩ = some (.int .i8 (x : Int)) ∧ V.cell? ⟨gs, (y * W + x) * 2 + 1, none⟩ = some (.int .i8 (y : Int)) ∧ cur.extract ((y * W + x) * 2) ((y * W + x) * 2 + 2) = tileC (x : Int) (y : Int) ∧ (y * W + x) * 2 + 2 ≤ cur.size := by
  have e1 : (y * W + x) % W = x := by rw [Nat.mul_comm, Nat.mul_add_mod]; exact Nat.mod_eq_of_lt hx
  have e2 : (y * W + x) / W = y := by rw [Nat.mul_comm, Nat.mul_add_div hW, Nat.div_eq_of_lt hx, Nat.add_zero]
  obtain ⟨c1, c2⟩ := tC_get W n (y * W + x) hk
  rw [e1, ← ht, List.getElem?_take_of_lt (by omega), Array.getElem?_toList] at c1
  rw [e2, ← ht, List.getElem?_take_of_lt (by omega), Array.getElem?_toList] at c2
  refine ⟨by rw [cell_of_row _ _ _ _ _ _ h]; exact c1, by rw [cell_of_row _ _ _ _ _ _ h]; exact c2, ext_two c1 c2, ?_⟩
  have := (Array.getElem?_eq_some_iff.1 c2).1
  omega

set_option maxRecDepth 100000 in
set_option maxHeartbeats 8000000 in
theorem sMap_y (W H : Nat) (hW : 0 < W) (hH : 0 < H) (sv : Value) (ws : List Wn) (hwf : ∀ x ∈ ws, WnWf x) (g : Int × Int → Nat) (hgd : g = fun t => litW (W : Int) (H : Int) t (fun _ => true) ws) (w : World) (hws : WinsAt w sv ws) (hv : okRm (W : Int) (H : Int) ws = true) :
    Calls Tryd.prog 26 #[.agg (roomC (W : Int) (H : Int) sv)] w fun e w' => e = .returned (.tuple #[.agg (mpC (mpK g W H (W * H))), .int .i64 0]) ∧ Below w.heap.size w w' := by
  have ok := okRm_get hv
  have hW1 : W ≤ 10 := by have := ok.w1; omega
  have hH1 : H ≤ 10 := by have := ok.h1; omega
  have iw : I8 (W : Int) := by unfold I8; omega
  have ih : I8 (H : Int) := by unfold I8; omega
  have HOK : Hid (∀ V, V.heap[w.heap.size]? = some (.cells (roomC (W : Int) (H : Int) sv) 44 (0, 0)) → WinsAt V sv ws → Calls Tryd.prog 67 #[.pointer (some ⟨w.heap.size, 0, none⟩)] V fun e w' => e = .returned (.bool true) ∧ Below V.heap.size V w') := Lib.hid (fun V q h => by have := l03Ok_any (W : Int) (H : Int) iw ih sv ws hwf w.heap.size 44 (0, 0) V q h; rw [hv] at this; exact this)
  have HTI : Hid (∀ V, V.heap[w.heap.size]? = some (.cells (roomC (W : Int) (H : Int) sv) 44 (0, 0)) → Calls Tryd.prog 68 #[.pointer (some ⟨w.heap.size, 0, none⟩)] V fun e w' => (∃ v, e = .returned v ∧ w'.ownsRow V.heap.size 100 2 v (W * H) (tC W (W * H))) ∧ Below V.heap.size V w') := Lib.hid (fun V q => l03Tiles_any W H hW hW1 hH1 sv w.heap.size V q)
  have HLT : Hid (∀ (a1 a2 : Int), inRoom (W : Int) (H : Int) (a1, a2) → ∀ V, V.heap[w.heap.size]? = some (.cells (roomC (W : Int) (H : Int) sv) 44 (0, 0)) → WinsAt V sv ws → Calls Tryd.prog 69 #[.pointer (some ⟨w.heap.size, 0, none⟩), .agg (tileC a1 a2)] V fun e V' => e = .returned (.float .f32 (g (a1, a2))) ∧ Below V.heap.size V V') := by
    rw [hgd]
    exact fun a1 a2 ha V q hV => l03Light_any (W : Int) (H : Int) sv ws ok hwf a1 a2 ha w.heap.size 44 (0, 0) V q hV
  have HW := Lib.hid hws
  have HZB : Hid (Tryd.prog.built 39 [] = some (mpC zM)) := by unfold Hid; kernel_rfl
  have hn0 : 0 < W * H := Nat.mul_pos hW hH
  have hn1 : W * H ≤ 100 := Nat.mul_le_mul hW1 hH1
  have HSP := Lib.hid (fun k (hk : k < W * H) => tk_split W H hW hH hk)
  have HST := Lib.hid (fun x y (hx : x < W) (hy : y < H) => mpK_step g W H hW hW1 hx hy)
  have HLN := Lib.hid (mpK_len g W H)
  clear hws hv hwf iw ih ok hgd
  go_enter Tryd.func26, Tryd.ntmps26
  go_upto_region 1 with (fail)
  refine abs_world (fun V => V.heap[w.heap.size]? = some (.cells (roomC (W : Int) (H : Int) sv) 44 (0, 0)) ∧ V.heap[w.heap.size + 1]? = some (.cells (mpC zM) 39 (0, 0)) ∧ Below w.heap.size w V) (two_at w (.cells (roomC (W : Int) (H : Int) sv) 44) (.cells (mpC zM) 39)) ?_
  rintro V ⟨h0, h1, hb⟩
  have H0 := Lib.hid h0
  have H1 := Lib.hid h1
  have HV := Lib.hid (wins_below HW.out hb)
  have n01 : w.heap.size < w.heap.size + 1 := by omega
  have hle1 : w.heap.size ≤ w.heap.size + 1 := by omega
  generalize w.heap.size + 1 = b1 at *
  clear h0 h1
  go_upto_region 2 with (first | (refine wpList_buildL rfl 39 _ rfl _ rfl [] rfl (mpC zM) HZB.out ?_) | (refine wpList_store_part rfl 39 _ _ rfl _ 0 (mpC zM) rfl rfl 39 _ (heap_alloc_new _ _) (by rw [mpC_size, zM_len]; exact info_aa) (by rw [mpC_size, zM_len]; decide) (mpC_one _) ?_; rw [laid_allwE _ _ (by rfl)]))
  refine abs_world (fun X => X.heap[w.heap.size]? = some (.cells (roomC (W : Int) (H : Int) sv) 44 (0, 0)) ∧ X.heap[b1]? = some (.cells (mpC zM) 39 (0, 0)) ∧ X.heap[V.heap.size]? = some (.cells (mpC zM) 39 (0, 0)) ∧ Below w.heap.size w X) ⟨below_row (zbelE _ _ _) H0.out, below_row (zbelE _ _ _) H1.out, setRow_heap _ _ _ _ _ _ (heap_alloc_new _ _), below_setRow (hb.alloc hb.size _) hb.size _⟩ ?_
  have hb12 := row_lt H1.out
  have hle2 := hb.size
  clear H0 H1 HV hb
  generalize V.heap.size = b2 at *
  rintro V ⟨h0, h1, h2, hb⟩
  have H0 := Lib.hid h0
  have H1 := Lib.hid h1
  have H2 := Lib.hid h2
  have HV := Lib.hid (wins_below HW.out hb)
  clear h0 h1 h2
  go_upto_region 5 with (first | (go_at_call 67; refine (HOK.out _ H0.out HV.out).mono ?_; rintro e W1 ⟨rfl, hb1⟩; replace H2 := Lib.hid (below_row hb1 H2.out); replace H0 := Lib.hid (below_row hb1 H0.out); replace H1 := Lib.hid (below_row hb1 H1.out); replace HV := Lib.hid (wins_below HV.out hb1); replace hb := hb.trans (hb1.mono hb.size); clear hb1) | (go_at_call 68; have l0 := row_lt H0.out; have l1 := row_lt H1.out; have l2 := row_lt H2.out; refine (HTI.out _ H0.out).mono ?_; rintro e W1 ⟨⟨v, rfl, hv0⟩, hb1⟩; have HV0 := Lib.hid hv0; clear hv0; replace H2 := Lib.hid (below_row hb1 H2.out); replace H0 := Lib.hid (below_row hb1 H0.out); replace H1 := Lib.hid (below_row hb1 H1.out); replace HV := Lib.hid (wins_below HV.out hb1); replace hb := hb.trans (hb1.mono hb.size); clear hb1))
  rcases HV0.out.2 with ⟨_, hz⟩ | ⟨gs, cap, cur, rfl, hbg, hg, hnc, hcm, hsz, htk⟩
  · omega
  have hgs0 : w.heap.size < gs := by omega
  have hgs1 : b1 < gs := by omega
  have hgs2 : b2 < gs := by omega
  have HT := Lib.hid hg
  have HTK := Lib.hid htk
  clear hg htk hbg l0 l1 l2 HV0 HOK HTI hsz HZB
  go_wp2
  go_loopw [6] (fun i wr => ∃ k : Nat, k ≤ W * H ∧ i = .int .i64 (k : Int) ∧ wr.heap[w.heap.size]? = some (.cells (roomC (W : Int) (H : Int) sv) 44 (0, 0)) ∧ wr.heap[b1]? = some (.cells (mpC zM) 39 (0, 0)) ∧ wr.heap[b2]? = some (.cells (mpC (mpK g W H k)) 39 (0, 0)) ∧ TilesAt wr gs cur ∧ Below w.heap.size w wr) (fun i _ => (W * H : Nat) - (intOf i).toNat)
  case atStart => exact ⟨0, Nat.zero_le _, rfl, H0.out, H1.out, by rw [mpK_zero]; exact H2.out, HT.out, hb⟩
  case round =>
    clear H0 H1 H2 HV HT hb
    obtain ⟨k, hk, rfl, h0, h1, h2, ht, hb⟩ := hrel
    have H0 := Lib.hid h0
    have H1 := Lib.hid h1
    have H2 := Lib.hid h2
    have HT := Lib.hid ht
    have HV := Lib.hid (wins_below HW.out hb)
    clear h0 h1 h2 ht
    by_cases hlt : k < W * H
    · obtain ⟨x, y, hx, hy, hkk, -⟩ := HSP.out k hlt
      have HS := Lib.hid (HST.out x y hx hy)
      have HLA := Lib.hid (HLT.out (x : Int) (y : Int) ⟨by show (0 : Int) ≤ (x : Int); omega, by show (x : Int) < (W : Int); omega, by show (0 : Int) ≤ (y : Int); omega, by show (y : Int) < (H : Int); omega⟩)
      have HGT := Lib.hid (fun V (h : TilesAt V gs cur) => tiles_get h HTK.out hW hx (by rw [← hkk]; exact hlt))
      have HLK := Lib.hid (HLN.out (y * W + x))
      rw [← hkk] at HS HGT HLK
      clear hkk
      have z1 : (k : Int) < ((W * H : Nat) : Int) := by omega
      have z2 : (0 : Int) ≤ (k : Int) := by omega
      have z3 : (x : Int) < 10 := by omega
      have z4 : (0 : Int) ≤ (x : Int) := by omega
      have z5 : (y : Int) < 10 := by omega
      have z6 : (0 : Int) ≤ (y : Int) := by omega
      clear HSP HST HLN HLT
      generalize hnn : W * H = nn at *
      generalize hmk : mpK g W H k = mk at *
      clear hnn hmk
      go_upto_region 8 with (fail)
      refine wp_region_held_drew (S := (fun X => X.heap[w.heap.size]? = some (.cells (roomC (W : Int) (H : Int) sv) 44 (0, 0)) ∧ TilesAt X gs cur ∧ WinsAt X sv ws)) (by kernel_rfl) ⟨H0.out, HT.out, wins_below HV.out (Below.drew (Below.refl _ _))⟩ (fun hHeld => ?_)
      refine take_op (i := 0) (d := 18) (v := ?_) rfl rfl (by kernel_rfl) (by kernel_rfl) (by kernel_rfl) (fun _ _ _ h => h) (Or.inl ⟨by rfl, ?hy0e7⟩) hHeld ?rest0e7
      case hy0e7 =>
        intro w' hS'
        go_simp
        try with_reducible rfl
      simp only [List.setIfInBounds_toArray, List.set_cons_zero, List.set_cons_succ]
      refine take_op (i := 1) (d := 19) (v := ?_) rfl rfl (by kernel_rfl) (by kernel_rfl) (by kernel_rfl) (fun _ _ _ h => h) (Or.inl ⟨by rfl, ?hy1e8⟩) hHeld ?rest1e8
      case hy1e8 =>
        intro w' hS'
        go_simp
        try with_reducible rfl
      simp only [List.setIfInBounds_toArray, List.set_cons_zero, List.set_cons_succ]
      refine take_op (i := 2) (d := 20) (v := ?_) rfl rfl (by kernel_rfl) (by kernel_rfl) (by kernel_rfl) (fun _ _ _ h => h) (Or.inl ⟨by rfl, ?hy2e9⟩) hHeld ?rest2e9
      case hy2e9 =>
        intro w' hS'
        go_simp
        try with_reducible rfl
      simp only [List.setIfInBounds_toArray, List.set_cons_zero, List.set_cons_succ]
      refine take_op (i := 3) (d := 21) (v := ?_) rfl rfl (by kernel_rfl) (by kernel_rfl) (by kernel_rfl) (fun _ _ _ h => h) (Or.inl ⟨by rfl, ?hy3e10⟩) hHeld ?rest3e10
      case hy3e10 =>
        intro w' hS'
        go_simp
        try with_reducible rfl
      simp only [List.setIfInBounds_toArray, List.set_cons_zero, List.set_cons_succ]
      refine take_op (i := 4) (d := 22) (v := ?_) rfl rfl (by kernel_rfl) (by kernel_rfl) (by kernel_rfl) (fun _ _ _ h => h) (Or.inl ⟨by rfl, ?hy4e11⟩) hHeld ?rest4e11
      case hy4e11 =>
        intro w' hS'
        have q := (HGT.out _ hS'.2.1).2.1
        go_simp
        try with_reducible rfl
      simp only [List.setIfInBounds_toArray, List.set_cons_zero, List.set_cons_succ]
      refine take_op (i := 5) (d := 23) (v := ?_) rfl rfl (by kernel_rfl) (by kernel_rfl) (by kernel_rfl) (fun _ _ _ h => h) (Or.inl ⟨by rfl, ?hy5e12⟩) hHeld ?rest5e12
      case hy5e12 =>
        intro w' hS'
        go_simp
        try with_reducible rfl
      simp only [List.setIfInBounds_toArray, List.set_cons_zero, List.set_cons_succ]
      refine take_op (i := 6) (d := 24) (v := ?_) rfl rfl (by kernel_rfl) (by kernel_rfl) (by kernel_rfl) (fun _ _ _ h => h) (Or.inl ⟨by rfl, ?hy6e13⟩) hHeld ?rest6e13
      case hy6e13 =>
        intro w' hS'
        go_simp
        try with_reducible rfl
      simp only [List.setIfInBounds_toArray, List.set_cons_zero, List.set_cons_succ]
      refine take_op (i := 7) (d := 25) (v := ?_) rfl rfl (by kernel_rfl) (by kernel_rfl) (by kernel_rfl) (fun _ _ _ h => h) (Or.inl ⟨by rfl, ?hy7e14⟩) hHeld ?rest7e14
      case hy7e14 =>
        intro w' hS'
        go_simp
        try with_reducible rfl
      simp only [List.setIfInBounds_toArray, List.set_cons_zero, List.set_cons_succ]
      refine take_op (i := 8) (d := 26) (v := ?_) rfl rfl (by kernel_rfl) (by kernel_rfl) (by kernel_rfl) (fun _ _ _ h => h) (Or.inl ⟨by rfl, ?hy8e15⟩) hHeld ?rest8e15
      case hy8e15 =>
        intro w' hS'
        go_simp
        try with_reducible rfl
      simp only [List.setIfInBounds_toArray, List.set_cons_zero, List.set_cons_succ]
      refine take_op (i := 9) (d := 27) (v := ?_) rfl rfl (by kernel_rfl) (by kernel_rfl) (by kernel_rfl) (fun _ _ _ h => h) (Or.inl ⟨by rfl, ?hy9e16⟩) hHeld ?rest9e16
      case hy9e16 =>
        intro w' hS'
        have q := (HGT.out _ hS'.2.1).1
        go_simp
        try with_reducible rfl
      simp only [List.setIfInBounds_toArray, List.set_cons_zero, List.set_cons_succ]
      refine take_op (i := 10) (d := 28) (v := ?_) rfl rfl (by kernel_rfl) (by kernel_rfl) (by kernel_rfl) (fun _ _ _ h => h) (Or.inl ⟨by rfl, ?hy10e17⟩) hHeld ?rest10e17
      case hy10e17 =>
        intro w' hS'
        go_simp
        try with_reducible rfl
      simp only [List.setIfInBounds_toArray, List.set_cons_zero, List.set_cons_succ]
      refine take_op (i := 11) (d := 29) (v := ?_) rfl rfl (by kernel_rfl) (by kernel_rfl) (by kernel_rfl) (fun _ _ _ h => h) (Or.inl ⟨by rfl, ?hy11e18⟩) hHeld ?rest11e18
      case hy11e18 =>
        intro w' hS'
        go_simp
        try with_reducible rfl
      simp only [List.setIfInBounds_toArray, List.set_cons_zero, List.set_cons_succ]
      refine take_op (i := 12) (d := 30) (v := ?_) rfl rfl (by kernel_rfl) (by kernel_rfl) (by kernel_rfl) (fun _ _ _ h => h) (Or.inl ⟨by rfl, ?hy12e19⟩) hHeld ?rest12e19
      case hy12e19 =>
        intro w' hS'
        go_simp
        try with_reducible rfl
      simp only [List.setIfInBounds_toArray, List.set_cons_zero, List.set_cons_succ]
      refine take_op (i := 13) (d := 31) (v := .agg (tileC (x : Int) (y : Int))) rfl rfl (by kernel_rfl) (by kernel_rfl) (by kernel_rfl) (fun _ _ _ h => h) (yields_row (by rfl) 100 (.tmp 30) (by rfl) gs (k * 2) 2 (by rfl) 100 (cur) (0, 0) _ (fun _ h => h.2.1) Tryd.underlying100 rfl info_tile (HGT.out _ HT.out).2.2.2 (tileC (x : Int) (y : Int)) (HGT.out _ HT.out).2.2.1) hHeld ?_
      simp only [List.setIfInBounds_toArray, List.set_cons_zero, List.set_cons_succ]
      refine take_op (i := 15) (d := 33) (v := ?_) rfl rfl (by kernel_rfl) (by kernel_rfl) (by kernel_rfl) (fun _ _ _ h => h) (Or.inl ⟨by rfl, ?hy15e20⟩) hHeld ?rest15e20
      case hy15e20 =>
        intro w' hS'
        go_simp
        try with_reducible rfl
      simp only [List.setIfInBounds_toArray, List.set_cons_zero, List.set_cons_succ]
      have HVD : Hid (Below wr.heap.size wr wr.drew) := Lib.hid (Below.refl wr.heap.size wr).drew
      refine wpAnyH_ready (rs := [14]) (by kernel_rfl) (by simp) ?_
      refine AllReadyH.cons rfl (fun K hK => ?_) AllReadyH.nil
      go_simp
      refine (HLA.out _ hHeld.1 hHeld.2.2).mono ?_
      rintro e W1 ⟨rfl, hb1⟩
      refine hK.out _ _ ⟨below_row hb1 hHeld.1, below_row hb1 hHeld.2.1, wins_below hHeld.2.2 hb1⟩ (fun hHeld2 => ?_)
      clear hK K
      replace hHeld := hHeld2
      clear hHeld2
      have HB1 : Hid (Below wr.heap.size wr W1) := HVD.out.trans hb1
      clear hb1
      refine take_op (i := 16) (d := 34) (v := ?_) rfl rfl (by kernel_rfl) (by kernel_rfl) (by kernel_rfl) (fun _ _ _ h => h) (Or.inl ⟨by rfl, ?hy16e21⟩) hHeld ?rest16e21
      case hy16e21 =>
        intro w' hS'
        go_simp
        try with_reducible rfl
      simp only [List.setIfInBounds_toArray, List.set_cons_zero, List.set_cons_succ]
      have h2 := below_row HB1.out H2.out
      have c2 := mpC_cell h2 (y * 10 + x) (by rw [HLK.out]; omega)
      have f2 := frozen_of_row W1 b2 (y * 10 + x) _ _ h2
      have H2B := Lib.hid h2
      clear h2
      refine wpAnyH_ready (rs := [17]) (by kernel_rfl) (by simp) ?_
      refine AllReadyH.cons rfl (fun K hK => ?_) AllReadyH.nil
      go_simp
      have hbn : Below w.heap.size w (W1.setCell ⟨b2, y * 10 + x, none⟩ (.float .f32 (g ((x : Int), (y : Int))))) := (hb.trans (HB1.out.mono hb.size)).setCell (p := ⟨b2, y * 10 + x, none⟩) hle2 _
      have hwins := wins_below HW.out hbn
      refine hK.out _ _ ⟨(heap_setCell_other _ _ _ _ (by simp; omega)).trans hHeld.1, (heap_setCell_other _ _ _ _ (by simp; omega)).trans hHeld.2.1, hwins⟩ (fun hHeld2 => ?_)
      clear hK K
      refine wpAnyH_done (by kernel_rfl) ?_ _
      clear hHeld2 hwins
      go_wp2
      go_roundw
      case rel => exact ⟨k + 1, by omega, by first | (simp; done) | (simp; omega), (heap_setCell_other _ _ _ _ (by simp; omega)).trans hHeld.1, (heap_setCell_other _ _ _ _ (by simp; omega)).trans (below_row HB1.out H1.out), by rw [heap_setCell_same _ _ _ _ _ _ H2B.out, mpC_set, HS.out], (heap_setCell_other _ _ _ _ (by simp; omega)).trans hHeld.2.1, hbn⟩
      case measure => simp [intOf]; omega
    · obtain rfl : k = W * H := by omega
      have LM := Lib.hid (HLN.out (W * H))
      clear hlt hk HSP HST HLN HLT
      have z1 : ¬ (((W * H : Nat) : Int) < ((W * H : Nat) : Int)) := Int.lt_irrefl _
      go_wp2_with (first | (refine wpList_load_part rfl 39 _ rfl b2 0 100 rfl 39 (mpC (mpK g W H (W * H))) (0, 0) _ H2.out Tryd.underlying39 rfl info_aa (by rw [mpC_size, LM.out]; decide) (mpC (mpK g W H (W * H))) (mpC_all _ 100 LM.out) ?_) | (refine wpList_store_part rfl 39 _ _ rfl b1 0 (mpC (mpK g W H (W * H))) rfl rfl 39 (mpC zM) H1.out (by rw [mpC_size, LM.out]; exact info_aa) (by rw [mpC_size, mpC_size, LM.out, zM_len]; decide) (mpC_one _) ?_; rw [laid_allwE _ _ (by rw [mpC_size, mpC_size, LM.out, zM_len])]))
      refine bodyPost_ret (results_map rfl _ _ b1 (mpK g W H (W * H)) LM.out rfl (setRow_heap _ _ _ _ _ _ H1.out)) rfl ?_
      exact ⟨rfl, below_setRow hb hle1 _⟩

end Go.Proofs.YtmniodfdoidffaaDoor
