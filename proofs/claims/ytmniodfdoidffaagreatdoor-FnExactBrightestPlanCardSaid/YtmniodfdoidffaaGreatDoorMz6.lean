/-
  BpB, LgA, BpC, BpL.
-/
import Derived.Test.YtmniodfdoidffaaGreatDoorMz5
import Derived.Test.YtmniodfdoidffaaGreatDoorMz4
import Derived.Test.YtmniodfdoidffaaGreatDoorMz2
import Derived.Test.YtmniodfdoidffaaGreatDoorMz3
import Derived.Test.YtmniodfdoidffaaGreatDoorList
import Derived.RangeFuncFrom
import Derived.RangeFuncWrites
import Derived.Test.YtmniodfdoidffaaGreatDoorChW
import Derived.Test.YtmniodfdoidffaaGreatDoorLawH

namespace Go.Proofs.YtmniodfdoidffaaGreatDoor
open Go.ChangeShapes Go.WideShapes Go.ChangeAt Go.RowKit Go.Deep Go.Joins

attribute [local go_sem] run_store_f

set_option maxRecDepth 100000 in
set_option maxHeartbeats 8000000 in
theorem brightest_any (hs ts : List Int) (hh : hs.length = 24) (ht : ts.length = 24) (fc : Int) (lo hi : Nat) (n : Int) (wd gp : Nat) (t : Int) (sh : Nat) (ok : BlOk n wd gp t sh) (dh : DyHr hs ts fc) (zs : Array Value) (hzs : zs.size = 24) (T : Nat → List Int) (hT : ∀ j, j < 24 → T j ≠ []) (hb64 : ∀ j, j < 24 → ∀ x ∈ T j, -64 ≤ x ∧ x ≤ 64) (hlen : ∀ j, (T j).length ≤ 129) (w : World) (hv : ∀ j, j < 24 → ∃ v, zs[j]? = some v ∧ IntsAt w v (T j)) (g : Nat → Int → Nat) (hgd : g = (fun (h : Nat) (x : Int) => winB wd gp x sh hs ts (h : Int) fc)) (p : List Int) (hp : ∀ k, k = 24 → bpL g T k = p) :
    Calls Tryz.prog 29 #[.agg (dayC hs ts fc lo hi n wd gp t sh), .agg zs] w fun e w' => e = .returned (.agg (i16s p)) ∧ Below w.heap.size w w' := by
  have HLI : Hid (∀ k : Nat, k < 24 → ∀ x ∈ T k, ∀ w, Calls Tryz.prog 46 #[.agg (dayC hs ts fc lo hi n wd gp t sh), .int .i64 (k : Int), .int .i64 x] w fun e w' => e = .returned (.float .f32 (g k x)) ∧ Below w.heap.size w w') := by
    rw [hgd]
    exact fun k hk x hx w => light_any hs ts hh ht fc lo hi n wd gp t sh ok (k : Int) x (dh.all k hk) (hb64 k hk x hx).1 (hb64 k hk x hx).2 w
  have HPS : Hid (∀ k : Nat, k < 24 → ∀ x, pos32 (g k x) = true) := by
    rw [hgd]
    exact fun k hk x => winB_pos wd gp x ok.2.2.2.2.2.2.2.2 hs ts (k : Int) fc (dh.all k hk).x1
  have Hh := Lib.hid hh
  have Ht := Lib.hid ht
  have HZS := Lib.hid hzs
  have HT := Lib.hid hT
  have HB64 := Lib.hid hb64
  have HLEN := Lib.hid hlen
  have HVV := Lib.hid hv
  have HP := Lib.hid hp
  have HPL : Hid (p.length = 24) := Lib.hid (by rw [← hp 24 rfl]; exact bpL_len g T (Nat.le_refl _))
  have HBL := Lib.hid (fun k (hk : k ≤ 24) => bpL_len g T hk)
  have HBS := Lib.hid (fun k (hk : k < 24) => bpL_set g T hk)
  clear hh ht ok dh hzs hT hb64 hlen hv hgd hp
  go_enter Tryz.func29, Tryz.ntmps29
  go_upto_region 2 with (fail)
  refine abs_code (fun W => W.heap[w.heap.size]? = some (.cells (dayC hs ts fc lo hi n wd gp t sh) 66 (0, 0)) ∧ W.heap[w.heap.size + 1]? = some (.cells zs 59 (0, 0)) ∧ W.heap[w.heap.size + 1 + 1]? = some (.cells (i16s zP) 30 (0, 0)) ∧ W.heap[w.heap.size + 1 + 1 + 1]? = some (.cells (i16s zP) 30 (0, 0)) ∧ Below w.heap.size w W) ⟨(four_new _ _ _ _ _).1, (four_new _ _ _ _ _).2.1, (four_new _ _ _ _ _).2.2.1, (four_new _ _ _ _ _).2.2.2.1, (four_new _ _ _ _ _).2.2.2.2⟩ ?_
  rintro W ⟨h0, h9, h2, h3, hb⟩
  have n01 : w.heap.size < w.heap.size + 1 := by omega
  have n12 : w.heap.size + 1 < w.heap.size + 1 + 1 := by omega
  have n23 : w.heap.size + 1 + 1 < w.heap.size + 1 + 1 + 1 := by omega
  have hle2 : w.heap.size ≤ w.heap.size + 1 + 1 := by omega
  have hle3 : w.heap.size ≤ w.heap.size + 1 + 1 + 1 := by omega
  generalize w.heap.size + 1 + 1 + 1 = b3 at *
  generalize w.heap.size + 1 + 1 = b2 at *
  generalize w.heap.size + 1 = b1 at *
  have H0 := Lib.hid h0
  have H9 := Lib.hid h9
  have H2 := Lib.hid h2
  have H3 := Lib.hid h3
  clear h0 h9 h2 h3
  go_upto_region 3 with (refine wpList_load_part rfl 59 _ rfl b1 0 24 rfl 59 (zs) (0, 0) _ H9.out Tryz.underlying59 rfl info_59 (by rw [HZS.out]; decide) (zs) (by rw [Nat.zero_add, ← HZS.out, Array.extract_size]) ?_)
  go_loopw [14] (fun i wr => ∃ k : Nat, k ≤ 24 ∧ i = .int .i64 (k : Int) ∧ wr.heap[w.heap.size]? = some (.cells (dayC hs ts fc lo hi n wd gp t sh) 66 (0, 0)) ∧ wr.heap[b2]? = some (.cells (i16s zP) 30 (0, 0)) ∧ wr.heap[b3]? = some (.cells (i16s (bpL g T k)) 30 (0, 0)) ∧ Below w.heap.size w wr) (fun i _ => 24 - (intOf i).toNat)
  case atStart => exact ⟨0, Nat.zero_le _, rfl, H0.out, H2.out, H3.out, hb⟩
  case round =>
    clear H0 H9 H2 H3 hb
    obtain ⟨k, hk, rfl, h0, h2, h3, hb⟩ := hrel
    have H0 := Lib.hid h0
    have H2 := Lib.hid h2
    have H3 := Lib.hid h3
    clear h0 h2 h3
    by_cases hlt : k < 24
    · obtain ⟨v, hzv, hva⟩ := HVV.out k hlt
      have HZV := Lib.hid (fun w => run_index_59 zs k hlt v hzv w)
      have hgw : w.heap.size ≤ wr.heap.size := hb.size
      have HVN := Lib.hid (intsNe_arg (b := wr.heap.size) hva (HT.out k hlt) hgw hb)
      have HTK := Lib.hid (HT.out k hlt)
      have HXB : Hid (∀ x ∈ T k, -64 ≤ x ∧ x ≤ 64) := Lib.hid (HB64.out k hlt)
      have HLK := Lib.hid (HLI.out k hlt)
      have HPK := Lib.hid (HPS.out k hlt)
      have hbl := HBL.out k hk
      have HST := Lib.hid (HBS.out k hlt)
      have hlk := HLEN.out k
      have hlpos := List.length_pos_iff.2 (HT.out k hlt)
      obtain ⟨bt, hbt⟩ : ∃ bt, bpT (g k) (T k) = bt := ⟨_, rfl⟩
      rw [hbt] at HST
      have HBT := Lib.hid hbt
      generalize bpL g T k = pk at *
      generalize hgk : g k = gk at *
      generalize htk : T k = tk at *
      clear hgk htk hbt
      have HGR := Lib.hid (fun v w hv => greatestOf_any v (tk.map gk) (fun z hz => by obtain ⟨x, hx, rfl⟩ := List.mem_map.1 hz; exact pos_fin (HPK.out x)) (by rw [List.length_map]; omega) w hv)
      rw [List.length_map] at HGR
      have HBI := Lib.hid (bstI_lt (tk.map gk) (n := tk.length) hlpos tk.length (Nat.le_refl _))
      have z1 : (k : Int) < 24 := by omega
      have z2 : (0 : Int) ≤ (k : Int) := by omega
      have z3 : decide ((k : Int) < 24) = true := decide_eq_true z1
      obtain ⟨av, cv, rfl, hvl, hvc, -⟩ := id HVN.out.1
      have hidx := HZV.out
      have hmk := fun w => make_floats tk.length (by omega) w
      clear hzv hva HZV
      go_upto_region 6 with (fail)
      have ha0 : Below wr.heap.size wr (wr.alloc (.cells (madeCells #[.float .f32 0] tk.length) 23)) := (Below.refl _ _).alloc (Nat.le_refl _) _
      refine abs_code (fun V => V.heap[w.heap.size]? = some (.cells (dayC hs ts fc lo hi n wd gp t sh) 66 (0, 0)) ∧ V.heap[b2]? = some (.cells (i16s zP) 30 (0, 0)) ∧ V.heap[b3]? = some (.cells (i16s pk) 30 (0, 0)) ∧ (∃ cur : Array Value, V.heap[wr.heap.size]? = some (.cells cur 23 (0, 0)) ∧ cur.size = tk.length) ∧ IntsNe V wr.heap.size (.slice av tk.length cv) tk ∧ Below w.heap.size w V) ⟨below_row ha0 H0.out, below_row ha0 H2.out, below_row ha0 H3.out, ⟨_, heap_alloc_new _ _, size_madeCells _ _⟩, intsNe_below HVN.out ha0, hb.alloc hb.size _⟩ ?_
      have hb3l := row_lt H3.out
      clear ha0 H0 H2 H3 hb HVN hmk hidx
      generalize wr.heap.size = gl at *
      rintro V ⟨h0, h2, h3, ⟨cur0, hg0, hsz0⟩, hq, hb⟩
      have H0 := Lib.hid h0
      have H2 := Lib.hid h2
      have H3 := Lib.hid h3
      have HG0 := Lib.hid hg0
      have HQ := Lib.hid hq
      clear h0 h2 h3 hg0 hq
      go_wp2
      go_loopw [23] (fun i wq => ∃ m : Nat, m ≤ tk.length ∧ i = .int .i64 (m : Int) ∧ wq.heap[w.heap.size]? = some (.cells (dayC hs ts fc lo hi n wd gp t sh) 66 (0, 0)) ∧ wq.heap[b2]? = some (.cells (i16s zP) 30 (0, 0)) ∧ wq.heap[b3]? = some (.cells (i16s pk) 30 (0, 0)) ∧ (∃ cur : Array Value, wq.heap[gl]? = some (.cells cur 23 (0, 0)) ∧ cur.size = tk.length ∧ ∀ j x, j < m → tk[j]? = some x → cur[j]? = some (.float .f32 (gk x))) ∧ IntsNe wq gl (.slice av tk.length cv) tk ∧ Below w.heap.size w wq) (fun i _ => tk.length - (intOf i).toNat)
      case atStart => exact ⟨0, Nat.zero_le _, rfl, H0.out, H2.out, H3.out, ⟨cur0, HG0.out, hsz0, fun j x hj => by omega⟩, HQ.out, hb⟩
      case round =>
        clear H0 H2 H3 HG0 HQ hb
        obtain ⟨m, hm, rfl, h0, h2, h3, ⟨cur, hg, hsz, hpr⟩, hq, hbq⟩ := hrel
        have H0 := Lib.hid h0
        have H2 := Lib.hid h2
        have H3 := Lib.hid h3
        have HG := Lib.hid hg
        have HQ := Lib.hid hq
        have HPR := Lib.hid hpr
        clear h0 h2 h3 hg hq hpr
        by_cases hlm : m < tk.length
        · have hx : tk[m]? = some (tk[m]'hlm) := List.getElem?_eq_getElem _
          obtain ⟨gs, o, esl, hcell⟩ := int_atF HQ.out.1 hx
          subst esl
          generalize (tk[m]'hlm) = x at *
          have HXX := Lib.hid hx
          have HLX := Lib.hid (HLK.out x (List.mem_of_getElem? hx))
          have hcur : cur[m]? = some (cur[m]'(by omega)) := Array.getElem?_eq_getElem _
          have y1 : (m : Int) < (tk.length : Int) := by omega
          have y2 : (0 : Int) ≤ (m : Int) := by omega
          have y3 : decide ((m : Int) < (tk.length : Int)) = true := decide_eq_true y1
          clear hx
          go_wp2_with (first | (refine wpList_load_part rfl 66 _ rfl w.heap.size 0 56 rfl 66 (dayC hs ts fc lo hi n wd gp t sh) (0, 0) _ H0.out Tryz.underlying66 rfl info_dy (dy_fits 56 (by decide) hs ts Hh.out Ht.out fc lo hi n wd gp t sh) (dayC hs ts fc lo hi n wd gp t sh) (dy_all hs ts Hh.out Ht.out fc lo hi n wd gp t sh) ?_) | (go_at_call 46; refine (HLX.out _).mono ?_; rintro e W5 ⟨rfl, hb5⟩; replace H0 := Lib.hid (below_row hb5 H0.out); replace H2 := Lib.hid (below_row hb5 H2.out); replace H3 := Lib.hid (below_row hb5 H3.out); replace HG := Lib.hid (below_row hb5 HG.out); replace HQ := Lib.hid (intsNe_below HQ.out hb5); replace hbq := hbq.trans (hb5.mono hbq.size); clear hb5; have q1 := cell_k HG.out hcur; have q2 := frozen_of_row W5 gl m _ _ HG.out))
          clear q1 q2 hcur
          go_roundw
          case rel =>
            refine ⟨m + 1, by omega, by go_num, (heap_setCell_other _ _ _ _ (by simp; omega)).trans H0.out, (heap_setCell_other _ _ _ _ (by simp; omega)).trans H2.out, (heap_setCell_other _ _ _ _ (by simp; omega)).trans H3.out, ⟨cur.setIfInBounds m (.float .f32 (gk x)), heap_setCell_same _ _ _ _ _ _ HG.out, by simpa using hsz, fun j y hj hy => ?_⟩, intsNe_setCell HQ.out, hbq.setCell (p := ⟨gl, m, none⟩) hgw _⟩
            rw [Array.getElem?_setIfInBounds]
            by_cases e : m = j
            · subst e
              rw [HXX.out] at hy
              obtain rfl := Option.some.inj hy
              rw [if_pos rfl, if_pos (by omega)]
            · rw [if_neg e]; exact HPR.out j y (by omega) hy
          case measure => simp [intOf]; omega
        · obtain rfl : m = tk.length := by omega
          have HFA : Hid (FloatsAt wr (.slice (some ⟨gl, 0, none⟩) tk.length tk.length) (tk.map gk)) := by
            refine ⟨_, _, by rw [List.length_map], by rw [List.length_map]; exact Nat.le_refl _, by unfold maxLen; omega, fun j y hy => ⟨gl, 0, rfl, ?_⟩⟩
            rw [List.getElem?_map] at hy
            obtain ⟨x, hx, rfl⟩ := Option.map_eq_some_iff.1 hy
            have hjl := (List.getElem?_eq_some_iff.1 hx).1
            rw [Nat.zero_add]
            exact cell_k HG.out (HPR.out j x hjl hx)
          have y1 : ¬ ((tk.length : Int) < (tk.length : Int)) := by omega
          have y3 : decide ((tk.length : Int) < (tk.length : Int)) = false := decide_eq_false y1
          have hbi : ((bstI (tk.map gk) tk.length : Nat) : Int) < (tk.length : Int) := by have := HBI.out; omega
          have hbi0 : (0 : Int) ≤ ((bstI (tk.map gk) tk.length : Nat) : Int) := by omega
          have hxb : tk[bstI (tk.map gk) tk.length]? = some bt := by
            have h := HBT.out
            unfold bpT at h
            rw [List.getD, List.getElem?_eq_getElem HBI.out] at h
            rw [List.getElem?_eq_getElem HBI.out]
            exact congrArg some h
          obtain ⟨gs, o, esl, -⟩ := int_atF HQ.out.1 hxb
          subst esl
          have hbtb := HXB.out bt (List.mem_of_getElem? hxb)
          have hwx : IntKind.i16.wrap bt = bt := by rw [IntWalk.i16_in _ (by omega)]
          have HXBT := Lib.hid hxb
          clear hxb hlm HG HPR
          go_upto_region 12 with (go_at_call 47; refine (HGR.out _ _ HFA.out).mono ?_; rintro e W6 ⟨rfl, hb6⟩; replace H0 := Lib.hid (below_row hb6 H0.out); replace H2 := Lib.hid (below_row hb6 H2.out); replace H3 := Lib.hid (below_row hb6 H3.out); replace HQ := Lib.hid (intsNe_below HQ.out hb6); replace hbq := hbq.trans (hb6.mono hbq.size); clear hb6 HFA HGR)
          obtain ⟨gs2, o2, e2, hcell⟩ := int_atF HQ.out.1 HXBT.out
          injection e2 with e2
          injection e2 with e2 e3
          subst e2 e3
          have hd := cell_of_i16s H3.out k (by rw [hbl]; exact hlt)
          have hf := frozen_of_row _ b3 k _ _ H3.out
          generalize bstI (tk.map gk) tk.length = bi at *
          go_wp2
          go_roundw
          case rel => exact ⟨k + 1, by omega, by first | (simp; done) | (simp; omega), (heap_setCell_other _ _ _ _ (by simp; omega)).trans H0.out, (heap_setCell_other _ _ _ _ (by simp; omega)).trans H2.out, by rw [heap_setCell_same _ _ _ _ _ _ H3.out, i16s_set, HST.out], hbq.setCell (p := ⟨b3, k, none⟩) hle3 _⟩
          case measure => simp [intOf]; omega
    · have e24 : k = 24 := by omega
      rw [HP.out k e24] at H3
      have z1 : ¬ (k : Int) < 24 := by omega
      have z3 : decide ((k : Int) < 24) = false := decide_eq_false z1
      clear e24 hlt hk HBL HBS HP HVV HT HB64 HLEN
      go_wp2_with (first | (refine wpList_load_part rfl 30 _ rfl b3 0 24 rfl 30 (i16s p) (0, 0) _ H3.out Tryz.underlying30 rfl info_plan (by rw [i16s_size, HPL.out]; decide) (i16s p) (i16s_all _ 24 HPL.out) ?_) | (refine wpList_store_part rfl 30 _ _ rfl b2 0 (i16s p) rfl rfl 30 (i16s zP) H2.out (by rw [i16s_size, HPL.out]; exact info_plan) (by rw [i16s_size, i16s_size, HPL.out]; decide) (i16s_one _) ?_; rw [laid_all _ _ (by rw [i16s_size, i16s_size, HPL.out]; rfl)]))
      exact bodyPost_ret (v := .agg (i16s p)) (results_cell_row rfl _ _ _ _ _ _ _ rfl (setRow_heap _ _ _ _ _ _ H2.out) Tryz.underlying30 rfl (by rw [i16s_size, HPL.out]; exact info_plan)) rfl ⟨rfl, below_setRow hb hle2 _⟩

end Go.Proofs.YtmniodfdoidffaaGreatDoor

namespace Go.Proofs.YtmniodfdoidffaaGreatDoor
open Go.ChangeShapes Go.WideShapes Go.ChangeAt Go.RowKit Go.Shelf

attribute [local go_sem] Oper.semAt_some run_store_float

/-- Numbers as the cells of a row. -/
def flQ (xs : List Nat) : Array Value := (xs.map (Value.float .f32)).toArray

theorem flQ_size (xs : List Nat) : (flQ xs).size = xs.length := by simp [flQ]

theorem flQ_set (xs : List Nat) (k : Nat) (n : Nat) : (flQ xs).setIfInBounds k (.float .f32 n) = flQ (xs.set k n) := by
  apply Array.ext'
  simp [flQ, List.map_set]

theorem flQ_cell {W : World} {g : Nat} {xs : List Nat} {t : TypeId} {fr : Nat × Nat} (hg : W.heap[g]? = some (.cells (flQ xs) t fr)) (k : Nat) (h : k < xs.length) : W.cell? ⟨g, k, none⟩ = some (.float .f32 (xs[k]?.getD 0)) := by
  rw [cell_of_row W _ _ _ _ _ hg]
  simp [flQ, h]

theorem flQ_store {W : World} {g : Nat} {xs : List Nat} {t : TypeId} (h : W.heap[g]? = some (.cells (flQ xs) t (0, 0))) (k : Nat) (n : Nat) : (W.setCell ⟨g, k, none⟩ (.float .f32 n)).heap[g]? = some (.cells (flQ (xs.set k n)) t (0, 0)) := by
  rw [heap_setCell_same _ _ _ _ _ _ h, flQ_set]

/-- What the walk keeps: the day, the plan, the list's box, the list as far as it is filled. -/
def LgI (w : World) (dc pc : Array Value) (b1 b2 b3 : Nat) (g : Nat → Nat) (pre : List Hr) (W : World) : Prop :=
  ∃ zs : List Nat, zs.length = 24 ∧ (W.heap[w.heap.size]? = some (.cells dc 66 (0, 0)) ∧ W.heap[b1]? = some (.cells pc 30 (0, 0)) ∧ W.heap[b3]? = some (.cells #[.slice (some ⟨b2, 0, none⟩) 24 24] 73 (0, 0))) ∧ W.heap[b2]? = some (.cells (flQ zs) 23 (0, 0)) ∧ (Good pre → ∀ j, j < pre.length → zs[j]? = some (g j)) ∧ Below w.heap.size w W

theorem lgI_own (w : World) (dc pc : Array Value) (b1 b2 b3 : Nat) (g : Nat → Nat) (B : Nat) (hB : w.heap.size ≤ B) : OwnFrom B (LgI w dc pc b1 b2 b3 g) := by
  intro s W W' row ⟨zs, hz, ⟨h0, h1, h3⟩, h2, hg, hb⟩ hg' hr
  have hr2 := fun r e => (hr r e).2
  exact ⟨zs, hz, ⟨heap_kept h0 hg' hr2, heap_kept h1 hg' hr2, heap_kept h3 hg' hr2⟩, heap_kept h2 hg' hr2, hg, ownFrom_below (β := Unit) (Nat.le_refl _) hB () W W' row hb hg' hr⟩

set_option maxRecDepth 100000 in
set_option maxHeartbeats 4000000 in
theorem lights_any (hs ts : List Int) (hh : hs.length = 24) (ht : ts.length = 24) (fc : Int) (lo hi : Nat) (n : Int) (wd gp : Nat) (t : Int) (sh : Nat) (ok : BlOk n wd gp t sh) (dh : DyHr hs ts fc) (ps : List Int) (hp : ps.length = 24) (ho : okP ps = true) (w : World) :
    Calls Tryz.prog 31 #[.agg (dayC hs ts fc lo hi n wd gp t sh), .agg (i16s ps)] w fun e w' => (∃ v, e = .returned v ∧ Own w' w.heap.size 23 (Value.float .f32) v ((List.range 24).map (fun k : Nat => winB wd gp (ps[k]?.getD 0) sh hs ts (k : Int) fc))) ∧ Below w.heap.size w w' := by
  refine (callsIn_wide (n := 4)).1 ?_
  have HKP : Hid (∀ k : Nat, k < 24 → ∀ w, Calls Tryz.prog 46 #[.agg (dayC hs ts fc lo hi n wd gp t sh), .int .i64 (k : Int), .int .i64 (ps[k]?.getD 0)] w fun e w' => e = .returned (.float .f32 (winB wd gp (ps[k]?.getD 0) sh hs ts (k : Int) fc)) ∧ Below w.heap.size w w') := fun k hk w => light_any hs ts hh ht fc lo hi n wd gp t sh ok (k : Int) (ps[k]?.getD 0) (dh.all k hk) (plan_tilt hp ho hk).1 (plan_tilt hp ho hk).2 w
  have HTL := Lib.hid (fun k hk => plan_tilt hp ho (k := k) hk)
  have Hh := Lib.hid hh
  have Ht := Lib.hid ht
  have Hp := Lib.hid hp
  obtain ⟨g, hgd⟩ : ∃ g : Nat → Nat, g = (fun k : Nat => winB wd gp (ps[k]?.getD 0) sh hs ts (k : Int) fc) := ⟨_, rfl⟩
  have HKQ : Hid (∀ k : Nat, k < 24 → ∀ w, Calls Tryz.prog 46 #[.agg (dayC hs ts fc lo hi n wd gp t sh), .int .i64 (k : Int), .int .i64 (ps[k]?.getD 0)] w fun e w' => e = .returned (.float .f32 (g k)) ∧ Below w.heap.size w w') := by rw [hgd]; exact HKP.out
  rw [← hgd]
  clear hh ht ok dh hp ho HKP hgd
  have hmk : ∀ w, (Instr.makeSlice 73 (.int .i64 24) (.int .i64 24)).run Tryz.prog w = .ok (.slice (some ⟨w.heap.size, 0, none⟩) 24 24) (w.alloc (.cells (flQ (List.replicate 24 0)) 23)) := fun _ => by kernel_rfl
  refine callsIn_of_wp_marks Tryz.func31 rfl trivial ?_ rfl
  simp only [Tryz.ntmps31, List.size_toArray, List.length_cons, List.length_nil, Nat.reduceAdd, Nat.reduceSub, Array.replicate_succ, Array.replicate_zero, List.push_toArray, List.append_toArray, List.nil_append, List.cons_append]
  refine wpIn_wide.2 ?_
  go_upto_region 2 with (fail)
  refine abs_world (fun W => W.heap[w.heap.size]? = some (.cells (dayC hs ts fc lo hi n wd gp t sh) 66 (0, 0)) ∧ W.heap[w.heap.size + 1]? = some (.cells (i16s ps) 30 (0, 0)) ∧ W.heap[w.heap.size + 1 + 1]? = some (.cells (flQ (List.replicate 24 0)) 23 (0, 0)) ∧ W.heap[w.heap.size + 1 + 1 + 1]? = some (.cells #[.slice (some ⟨w.heap.size + 1 + 1, 0, none⟩) 24 24] 73 (0, 0)) ∧ Below w.heap.size w W) ⟨(four_new _ _ _ _ _).1, (four_new _ _ _ _ _).2.1, (four_new _ _ _ _ _).2.2.1, (four_new _ _ _ _ _).2.2.2.1, (four_new _ _ _ _ _).2.2.2.2⟩ ?_
  rintro W0 ⟨r0, r1, r2, r3, hb⟩
  have hl3 := row_lt r3
  have n01 : w.heap.size < w.heap.size + 1 := by omega
  have n12 : w.heap.size + 1 < w.heap.size + 1 + 1 := by omega
  have n23 : w.heap.size + 1 + 1 < w.heap.size + 1 + 1 + 1 := by omega
  generalize w.heap.size + 1 + 1 + 1 = b3 at *
  generalize w.heap.size + 1 + 1 = b2 at *
  generalize w.heap.size + 1 = b1 at *
  have hle : w.heap.size ≤ W0.heap.size := hb.size
  have R0 := Lib.hid r0
  have R1 := Lib.hid r1
  have R2 := Lib.hid r2
  have R3 := Lib.hid r3
  have HB := Lib.hid hb
  clear r0 r1 r2 r3 hb hmk
  go_wp2
  refine (wpIn_wide (n := 4)).1 ?_
  refine wpIn_rangeFunc_ownF rfl (by decide) (gf := 41) (lb := #[]) rfl trivial (enters_of Tryz.func41 (by kernel_rfl) rfl)
    (eachHour_stops Fence.wide _ trivial rfl (by decide) w.heap.size _) belowK_t (belowK_b hle) (Below.refl _ _) (fun _ => rfl)
    (LgI w (dayC hs ts fc lo hi n wd gp t sh) (i16s ps) b1 b2 b3 g) (fun _ _ _ => False) (lgI_own w _ _ b1 b2 b3 g _ (by first | (simp; done) | (simp; omega) | exact hle)) (fun _ _ _ _ _ hs _ _ => hs) ?h0
    (fun x => { tmps := #[.agg (dayC hs ts fc lo hi n wd gp t sh), .agg (i16s ps), .pointer (some ⟨w.heap.size, 0, none⟩), .pointer (some ⟨b1, 0, none⟩), .slice none 0 0, .pointer (some ⟨b3, 0, none⟩), .int .i64 x.1, .slice (some ⟨b2, 0, none⟩) 24 24, .int .i64 x.1, undef, undef, undef, undef, undef, undef, undef, undef, undef, undef, undef], defers := [] }) ?assign ?body ?done ?stop
  case h0 => exact ⟨List.replicate 24 0, by simp, ⟨R0.out, R1.out, R3.out⟩, R2.out, fun _ j hj => by simp at hj, HB.out⟩
  case assign =>
    intro l x W K hK
    gi_wp2
    exact hK
  case body =>
    rintro l pre ⟨x, hx0, hx1⟩ W ⟨zs, hz, ⟨h0, h1, h3⟩, h2, hg, hbw⟩ hl
    obtain ⟨k, rfl⟩ := Int.eq_ofNat_of_zero_le hx0
    have hk : k < 24 := by omega
    have H0 := Lib.hid h0
    have H1 := Lib.hid h1
    have H2 := Lib.hid h2
    have H3 := Lib.hid h3
    have hK0 := HKQ.out k hk
    have hT0 := HTL.out k hk
    obtain ⟨tl, hE⟩ : ∃ tl, ps[k]?.getD 0 = tl := ⟨_, rfl⟩
    rw [hE] at hK0 hT0
    have EX := Lib.hid hE
    have hw : IntKind.i64.wrap tl = tl := i64_small _ (by omega) (by omega)
    have hM : Hid (Good (pre ++ [⟨(k : Int), hx0, hx1⟩]) → ∀ j, j < (pre ++ [(⟨(k : Int), hx0, hx1⟩ : Hr)]).length → (zs.set k (g k))[j]? = some (g j)) := by
      intro hgs j hj
      obtain ⟨hgp, hxk⟩ := good_snoc hgs hl
      have hkl : k = pre.length := by have : (k : Int) = (pre.length : Int) := hxk; omega
      rw [List.length_append, List.length_singleton] at hj
      by_cases e : j = k
      · subst e
        rw [List.getElem?_set_self (by omega)]
      · rw [List.getElem?_set_ne (by omega)]
        exact hg hgp j (by omega)
    have HBW := Lib.hid hbw
    have z1 : (k : Int) < 24 := by omega
    have z2 : (0 : Int) ≤ (k : Int) := by omega
    have HK := Lib.hid hK0
    clear hg hE hT0 h0 h1 h2 h3 hbw hK0
    gi_wp2
    refine region_round (S := (fun V => V.heap[w.heap.size]? = some (.cells (dayC hs ts fc lo hi n wd gp t sh) 66 (0, 0)) ∧ V.heap[b1]? = some (.cells (i16s ps) 30 (0, 0)) ∧ V.heap[b3]? = some (.cells #[.slice (some ⟨b2, 0, none⟩) 24 24] 73 (0, 0)))) arrU (no_defer (by rfl)) (fun ⟨_, _, h⟩ => h) ⟨H0.out, H1.out, H3.out⟩ (fun hHeld => ?_)
    refine take_at (i := 0) (d := 9) (v := ?_) rfl rfl (by kernel_rfl) (by kernel_rfl) (by kernel_rfl) (fun _ _ _ h => h) (Or.inl ⟨by rfl, ?hy0u13⟩) hHeld ?rest0u13
    case hy0u13 =>
      intro w' hS'
      have q : w'.cell? ⟨b3, 0, none⟩ = some (.slice (some ⟨b2, 0, none⟩) 24 24) := by rw [cell_of_row _ _ _ _ _ _ hS'.2.2]; rfl
      go_simp
      try with_reducible rfl
    simp only [List.setIfInBounds_toArray, List.set_cons_zero, List.set_cons_succ]
    refine take_at (i := 1) (d := 10) (v := ?_) rfl rfl (by kernel_rfl) (by kernel_rfl) (by kernel_rfl) (fun _ _ _ h => h) (Or.inl ⟨by rfl, ?hy1u14⟩) hHeld ?rest1u14
    case hy1u14 =>
      intro w' hS'
      go_simp
      try with_reducible rfl
    simp only [List.setIfInBounds_toArray, List.set_cons_zero, List.set_cons_succ]
    refine take_at (i := 2) (d := 11) (v := .agg (dayC hs ts fc lo hi n wd gp t sh)) rfl rfl (by kernel_rfl) (by kernel_rfl) (by kernel_rfl) (fun _ _ _ h => h) (yields_part (by rfl) 66 (.tmp 2) (by rfl) w.heap.size 0 56 (by rfl) 66 (dayC hs ts fc lo hi n wd gp t sh) (0, 0) _ (fun _ h => h.1) Tryz.underlying66 rfl info_dy (dy_fits 56 (by decide) hs ts Hh.out Ht.out fc lo hi n wd gp t sh) (dayC hs ts fc lo hi n wd gp t sh) (dy_all hs ts Hh.out Ht.out fc lo hi n wd gp t sh)) hHeld ?_
    simp only [List.setIfInBounds_toArray, List.set_cons_zero, List.set_cons_succ]
    refine take_at (i := 3) (d := 12) (v := ?_) rfl rfl (by kernel_rfl) (by kernel_rfl) (by kernel_rfl) (fun _ _ _ h => h) (Or.inl ⟨by rfl, ?hy3u15⟩) hHeld ?rest3u15
    case hy3u15 =>
      intro w' hS'
      go_simp
      try with_reducible rfl
    simp only [List.setIfInBounds_toArray, List.set_cons_zero, List.set_cons_succ]
    refine take_at (i := 4) (d := 13) (v := ?_) rfl rfl (by kernel_rfl) (by kernel_rfl) (by kernel_rfl) (fun _ _ _ h => h) (Or.inl ⟨by rfl, ?hy4u16⟩) hHeld ?rest4u16
    case hy4u16 =>
      intro w' hS'
      go_simp
      try with_reducible rfl
    simp only [List.setIfInBounds_toArray, List.set_cons_zero, List.set_cons_succ]
    refine take_at (i := 5) (d := 14) (v := ?_) rfl rfl (by kernel_rfl) (by kernel_rfl) (by kernel_rfl) (fun _ _ _ h => h) (Or.inl ⟨by rfl, ?hy5u17⟩) hHeld ?rest5u17
    case hy5u17 =>
      intro w' hS'
      go_simp
      try with_reducible rfl
    simp only [List.setIfInBounds_toArray, List.set_cons_zero, List.set_cons_succ]
    refine take_at (i := 6) (d := 15) (v := ?_) rfl rfl (by kernel_rfl) (by kernel_rfl) (by kernel_rfl) (fun _ _ _ h => h) (Or.inl ⟨by rfl, ?hy6u18⟩) hHeld ?rest6u18
    case hy6u18 =>
      intro w' hS'
      have q := cell_of_i16s hS'.2.1 k (by rw [Hp.out]; exact hk)
      rw [EX.out] at q
      go_simp
      try with_reducible rfl
    simp only [List.setIfInBounds_toArray, List.set_cons_zero, List.set_cons_succ]
    refine take_at (i := 7) (d := 16) (v := ?_) rfl rfl (by kernel_rfl) (by kernel_rfl) (by kernel_rfl) (fun _ _ _ h => h) (Or.inl ⟨by rfl, ?hy7u19⟩) hHeld ?rest7u19
    case hy7u19 =>
      intro w' hS'
      go_simp
      try with_reducible rfl
    simp only [List.setIfInBounds_toArray, List.set_cons_zero, List.set_cons_succ]
    refine wpAnyH_ready (rs := [8]) (by kernel_rfl) (by simp) ?_
    refine AllReadyH.cons rfl (fun K hK => ?_) AllReadyH.nil
    go_simp
    refine (HK.out _).mono ?_
    rintro e W1 ⟨rfl, hb1⟩
    refine hK.out _ _ (⟨below_row hb1 hHeld.1, below_row hb1 hHeld.2.1, below_row hb1 hHeld.2.2⟩) (fun hHeld2 => ?_)
    clear hK K
    replace hHeld := hHeld2
    clear hHeld2
    refine take_at (i := 9) (d := 18) (v := ?_) rfl rfl (by kernel_rfl) (by kernel_rfl) (by kernel_rfl) (fun _ _ _ h => h) (Or.inl ⟨by rfl, ?hy9u20⟩) hHeld ?rest9u20
    case hy9u20 =>
      intro w' hS'
      go_simp
      try with_reducible rfl
    simp only [List.setIfInBounds_toArray, List.set_cons_zero, List.set_cons_succ]
    have HB1 : Hid (Below W.heap.size W W1) := (Below.refl W.heap.size W).drew.trans hb1
    clear hb1
    have h2 : W1.heap[b2]? = some (.cells (flQ zs) 23 (0, 0)) := below_row HB1.out H2.out
    have c2 := flQ_cell h2 k (by omega)
    have f2 := frozen_of_row W1 b2 k _ _ h2
    have H2B := Lib.hid h2
    clear h2
    refine wpAnyH_ready (rs := [10]) (by kernel_rfl) (by simp) ?_
    refine AllReadyH.cons rfl (fun K hK => ?_) AllReadyH.nil
    go_simp
    refine hK.out _ _ ⟨(heap_setCell_other _ _ _ _ (by simp; omega)).trans hHeld.1, (heap_setCell_other _ _ _ _ (by simp; omega)).trans hHeld.2.1, (heap_setCell_other _ _ _ _ (by simp; omega)).trans hHeld.2.2⟩ (fun hHeld2 => ?_)
    clear hK K
    refine wpAnyH_done (by kernel_rfl) ?_ _
    clear hHeld2
    have hwW := HBW.out.size
    gi_wp2
    exact ⟨(keeps_of_below HB1.out).trans (KeepsOthers.setCell _ _ _), (HB1.out.mono hwW).setCell (p := ⟨b2, k, none⟩) (by simp; omega) _, zs.set k (g k), by rw [List.length_set]; exact hz, ⟨(heap_setCell_other _ _ _ _ (by simp; omega)).trans (below_row HB1.out H0.out), (heap_setCell_other _ _ _ _ (by simp; omega)).trans (below_row HB1.out H1.out), (heap_setCell_other _ _ _ _ (by simp; omega)).trans (below_row HB1.out H3.out)⟩, flQ_store H2B.out k (g k), hM.out, (HBW.out.trans (HB1.out.mono hwW)).setCell (p := ⟨b2, k, none⟩) (by simp; omega) _⟩
  case done =>
    rintro D xs W hD rfl ⟨zs, hz, ⟨h0, h1, h3⟩, h2, hg, hbw⟩ hK
    rename_i K hcont
    have hD' : w.heap.size ≤ D := by first | omega | (simp at hD; omega)
    have hDb : D ≠ b2 := by first | omega | (simp at hD; omega)
    have c3 : W.cell? ⟨b3, 0, none⟩ = some (.slice (some ⟨b2, 0, none⟩) 24 24) := by rw [cell_of_row _ _ _ _ _ _ h3]; rfl
    have HQ : Hid (∀ j, j < 24 → zs[j]? = some (g j)) := fun j hj => hg good_all j (by rw [hrs_length]; exact hj)
    have H2 := Lib.hid h2
    have HK := Lib.hid hK
    have HBW := Lib.hid hbw
    clear hg hK h0 h1 h2 h3 hbw
    refine hcont _ _ ?_
    go_wp2
    refine ⟨by simp, .inl ⟨_, _, rfl, run_takeDeferred HK.out, ?_⟩⟩
    refine ⟨_, results_tmp (fn := Tryz.f31) rfl _ _ _, ⟨_, rfl, ?_⟩, HBW.out.trans (belowK_b (w := w) (Nat.le_refl _) W D _ _ hD' HK.out rfl rfl)⟩
    refine ⟨some ⟨b2, 0, none⟩, 24, rfl, by unfold maxLen; omega, by simp, .inr ⟨b2, flQ zs, rfl, by omega, (World.putObj_heap_other (Ne.symm hDb)).trans H2.out, fun j hj => ?_⟩⟩
    have hj' : j < 24 := by simpa using hj
    have hx := HQ.out j hj'
    have hjz : j < zs.length := by omega
    simp only [flQ, List.getElem?_toArray, List.getElem?_map, hx, List.getElem?_range hj', Option.map_some]
  case stop =>
    rintro D c pre W _ _ h _
    exact h.elim

end Go.Proofs.YtmniodfdoidffaaGreatDoor

namespace Go.Proofs.YtmniodfdoidffaaGreatDoor
open Go.ChangeShapes Go.WideShapes Go.ChangeAt Go.RowKit Go.Deep Go.Joins

attribute [local go_sem] run_store_f

theorem own_floatsB {w : World} {b : Nat} {v : Value} {zs : List Nat} (h : Own w b 23 (Value.float .f32) v zs) : FloatsAt w v zs := by
  obtain ⟨a, cap, rfl, h2, h3, h4⟩ := h
  refine ⟨a, cap, rfl, h3, h2, fun i x hx => ?_⟩
  rcases h4 with ⟨rfl, rfl⟩ | ⟨g, cur, rfl, hg, hc, hk⟩
  · simp at hx
  · have hi := (List.getElem?_eq_some_iff.1 hx).1
    exact ⟨g, 0, rfl, by rw [Nat.zero_add, cell_of_row w _ _ _ _ _ hc, hk i hi, hx]; rfl⟩

theorem kp_low {hs ts : List Int} {fc : Int} {hi wd gp sh : Nat} {hour x : Int} (h : pos32 (winB wd gp x sh hs ts hour fc) = true) : kpB hs ts fc 0 hi wd gp sh hour x = !gtO (winB wd gp x sh hs ts hour fc) hi := by
  have e : ltO (winB wd gp x sh hs ts hour fc) 0 = false := pos_not_lt h
  unfold kpB
  rw [e]
  simp

theorem bpL_ok {g : Nat → Int → Nat} {T : Nat → List Int} (hT : ∀ j, j < 24 → T j ≠ []) (hb : ∀ j, j < 24 → ∀ x ∈ T j, -64 ≤ x ∧ x ≤ 64) : okP (bpL g T 24) = true :=
  (okP_iff _ (bpL_len g T (Nat.le_refl _))).2 fun k hk => by
    rw [bpL_get g T hk]
    have := hb k hk _ (bpT_mem (g := g k) (hT k hk))
    unfold inI
    simp
    omega

theorem sumL_range (f : Nat → Nat) : sumL ((List.range 24).map f) ((List.range 24).map f).length = sumTo f 24 := by
  unfold sumL
  rw [List.length_map, List.length_range]
  refine sumTo_congr 24 fun j hj => ?_
  rw [List.getD, List.getElem?_map, List.getElem?_range hj]
  rfl

set_option maxRecDepth 100000 in
set_option maxHeartbeats 4000000 in
theorem iBest_F (n : Int) (wd gp : Nat) (t : Int) (sh : Nat) (hs ts : List Int) (hh : hs.length = 24) (ht : ts.length = 24) (fc : Int) (hi : Nat) (T0 : -32768 ≤ t) (T1 : t ≤ 32767) (hf : inF fc = false) (c : Int) (hc : cdP true (okBl n wd gp t sh) (okB hs ts) false = c) (hne : c ≠ 0) (w : World) (hE : ErrT w) :
    Calls Tryz.prog 11 #[.agg (blindC n wd gp t sh), .agg (sunC hs ts), .int .i64 fc, .float .f32 hi] w fun e w' => e = .returned (.tuple #[.agg (i16s zP), .float .f32 0, .int .i64 c]) ∧ Below w.heap.size w w' := by
  have HC := Lib.hid (fun w => checkDay_no n wd gp t sh hs ts hh ht T0 T1 false c hc hne w)
  have HD := Lib.hid (fun w hE => codeD_call c w hE)
  have HF := Lib.hid hf
  have Hh := Lib.hid hh
  have Ht := Lib.hid ht
  have HZB : Hid (Tryz.prog.built 30 [] = some (i16s zP)) := by unfold Hid; kernel_rfl
  have hn := fun w => run_neq_held_nil (P := Tryz.prog) (w := w) 56 84 (.agg #[.int .i64 c]) (by kernel_rfl)
  have HE0 := Lib.hid hE
  clear hh ht hc hne hE hf
  go_enter Tryz.func11, Tryz.ntmps11
  go_upto_region 1 with (fail)
  refine abs_code (fun W => W.heap[w.heap.size]? = some (.cells (blindC n wd gp t sh) 33 (0, 0)) ∧ W.heap[w.heap.size + 1]? = some (.cells (sunC hs ts) 35 (0, 0)) ∧ W.heap[w.heap.size + 1 + 1]? = some (.cells (i16s zP) 30 (0, 0)) ∧ Below w.heap.size w W) ⟨(three_new _ _ _ _).1, (three_new _ _ _ _).2.1, (three_new _ _ _ _).2.2.1, (three_new _ _ _ _).2.2.2⟩ ?_
  rintro W ⟨h0, h1, h2, hb⟩
  have n01 : w.heap.size < w.heap.size + 1 := by omega
  have n12 : w.heap.size + 1 < w.heap.size + 1 + 1 := by omega
  have hle2 : w.heap.size ≤ w.heap.size + 1 + 1 := by omega
  generalize w.heap.size + 1 + 1 = b2 at *
  generalize w.heap.size + 1 = b1 at *
  have H0 := Lib.hid h0
  have H1 := Lib.hid h1
  have H2 := Lib.hid h2
  clear h0 h1 h2
  refine wp_region_held_drew (S := (fun V => Below W.heap.size W V)) (by kernel_rfl) (Below.refl _ _).drew (fun hHeld => ?_)
  refine take_op (i := 0) (d := 16) (v := .agg (blindC n wd gp t sh)) rfl rfl (by kernel_rfl) (by kernel_rfl) (by kernel_rfl) (fun _ _ _ h => h) (yields_row (by rfl) 33 (.tmp 4) (by rfl) w.heap.size 0 5 (by rfl) 33 (blindC n wd gp t sh) (0, 0) _ (fun _ h => below_row h H0.out) Tryz.underlying33 rfl info_blind (blind_fits _ _ _ _ _) (blindC n wd gp t sh) (blind_all _ _ _ _ _)) hHeld ?_
  simp only [List.setIfInBounds_toArray, List.set_cons_zero, List.set_cons_succ]
  refine take_op (i := 1) (d := 17) (v := .agg (sunC hs ts)) rfl rfl (by kernel_rfl) (by kernel_rfl) (by kernel_rfl) (fun _ _ _ h => h) (yields_row (by rfl) 35 (.tmp 5) (by rfl) b1 0 48 (by rfl) 35 (sunC hs ts) (0, 0) _ (fun _ h => below_row h H1.out) Tryz.underlying35 rfl info_sun (sun_fits _ _ Hh.out Ht.out) (sunC hs ts) (sun_all _ _ Hh.out Ht.out)) hHeld ?_
  simp only [List.setIfInBounds_toArray, List.set_cons_zero, List.set_cons_succ]
  refine take_op (i := 2) (d := 18) (v := ?_) rfl rfl (by kernel_rfl) (by kernel_rfl) (by kernel_rfl) (fun _ _ _ h => h) (Or.inl ⟨by rfl, ?hy2u299⟩) hHeld ?rest2u299
  case hy2u299 =>
    intro w' hS'
    go_simp
    try with_reducible rfl
  simp only [List.setIfInBounds_toArray, List.set_cons_zero, List.set_cons_succ]
  refine wpAnyH_ready (rs := [3]) (by kernel_rfl) (by simp) ?_
  refine AllReadyH.cons rfl (fun K hK => ?_) AllReadyH.nil
  go_simp
  refine (isFacing_is fc false HF.out _).mono ?_
  rintro e w' ⟨rfl, rfl⟩
  refine hK.out _ _ (hHeld) (fun hHeld2 => ?_)
  clear hK K
  replace hHeld := hHeld2
  clear hHeld2
  refine take_op (i := 4) (d := 20) (v := ?_) rfl rfl (by kernel_rfl) (by kernel_rfl) (by kernel_rfl) (fun _ _ _ h => h) (Or.inl ⟨by rfl, ?hy4u300⟩) hHeld ?rest4u300
  case hy4u300 =>
    intro w' hS'
    go_simp
    try with_reducible rfl
  simp only [List.setIfInBounds_toArray, List.set_cons_zero, List.set_cons_succ]
  refine take_op (i := 5) (d := 21) rfl rfl (by kernel_rfl) (by kernel_rfl) (by kernel_rfl) (fun _ _ _ h => h) (Or.inr ⟨by rfl, rfl⟩) hHeld ?_
  simp only [List.setIfInBounds_toArray, List.set_cons_zero, List.set_cons_succ]
  refine take_op (i := 6) (d := 22) rfl rfl (by kernel_rfl) (by kernel_rfl) (by kernel_rfl) (fun _ _ _ h => h) (Or.inr ⟨by rfl, rfl⟩) hHeld ?_
  simp only [List.setIfInBounds_toArray, List.set_cons_zero, List.set_cons_succ]
  refine take_op (i := 7) (d := 23) (v := ?_) rfl rfl (by kernel_rfl) (by kernel_rfl) (by kernel_rfl) (fun _ _ _ h => h) (Or.inl ⟨by rfl, ?hy7u301⟩) hHeld ?rest7u301
  case hy7u301 =>
    intro w' hS'
    go_simp
    try with_reducible rfl
  simp only [List.setIfInBounds_toArray, List.set_cons_zero, List.set_cons_succ]
  refine wpAnyH_ready (rs := [8]) (by kernel_rfl) (by simp) ?_
  refine AllReadyH.cons rfl (fun K hK => ?_) AllReadyH.nil
  go_simp
  refine (HC.out _).mono ?_
  rintro e W1 ⟨rfl, hb1⟩
  refine hK.out _ _ (hHeld.trans (hb1.mono hHeld.size)) (fun hHeld2 => ?_)
  clear hK K
  replace hHeld := hHeld2
  clear hHeld2
  clear hb1
  refine take_op (i := 9) (d := 11) (v := ?_) rfl rfl (by kernel_rfl) (by kernel_rfl) (by kernel_rfl) (fun _ _ _ h => h) (Or.inl ⟨by rfl, ?hy9u302⟩) hHeld ?rest9u302
  case hy9u302 =>
    intro w' hS'
    go_simp
    try with_reducible rfl
  simp only [List.setIfInBounds_toArray, List.set_cons_zero, List.set_cons_succ]
  refine wpAnyH_done (by kernel_rfl) ?_ _
  replace H0 := Lib.hid (below_row hHeld H0.out)
  replace H1 := Lib.hid (below_row hHeld H1.out)
  replace H2 := Lib.hid (below_row hHeld H2.out)
  replace hb := hb.trans (hHeld.mono hb.size)
  clear hHeld
  go_wp2_with (first | (refine wpList_buildL rfl 30 _ rfl _ rfl [] rfl (i16s zP) HZB.out ?_) | (go_at_call 23; refine (HD.out _ (errT_below HE0.out hb)).mono ?_; rintro e W9 ⟨rfl, hb1⟩; replace H2 := Lib.hid (below_row hb1 H2.out); replace hb := hb.trans (hb1.mono hb.size); clear hb1) | (refine wpList_store_part rfl 30 _ _ rfl b2 0 (i16s zP) rfl rfl 30 (i16s zP) H2.out info_plan (Nat.le_refl _) zP_one ?_; rw [laid_all _ _ (by rfl)]))
  refine bodyPost_ret (results_plan rfl _ _ b2 zP zP_len rfl (setRow_heap _ _ _ _ _ _ H2.out)) rfl ?_
  exact ⟨rfl, below_setRow hb hle2 _⟩

set_option maxRecDepth 100000 in
set_option maxHeartbeats 4000000 in
theorem iBest_T (n : Int) (wd gp : Nat) (t : Int) (sh : Nat) (hs ts : List Int) (hh : hs.length = 24) (ht : ts.length = 24) (fc : Int) (hi : Nat) (T0 : -32768 ≤ t) (T1 : t ≤ 32767) (hf : inF fc = true) (hgh : Bool) (hhi : partB hi = hgh) (c : Int) (hc : cdP true (okBl n wd gp t sh) (okB hs ts) hgh = c) (hne : c ≠ 0) (w : World) (hE : ErrT w) :
    Calls Tryz.prog 11 #[.agg (blindC n wd gp t sh), .agg (sunC hs ts), .int .i64 fc, .float .f32 hi] w fun e w' => e = .returned (.tuple #[.agg (i16s zP), .float .f32 0, .int .i64 c]) ∧ Below w.heap.size w w' := by
  have HC := Lib.hid (fun w => checkDay_no n wd gp t sh hs ts hh ht T0 T1 hgh c hc hne w)
  have HD := Lib.hid (fun w hE => codeD_call c w hE)
  have HF := Lib.hid hf
  have HHi := Lib.hid hhi
  have Hh := Lib.hid hh
  have Ht := Lib.hid ht
  have HZB : Hid (Tryz.prog.built 30 [] = some (i16s zP)) := by unfold Hid; kernel_rfl
  have hn := fun w => run_neq_held_nil (P := Tryz.prog) (w := w) 56 84 (.agg #[.int .i64 c]) (by kernel_rfl)
  have HE0 := Lib.hid hE
  clear hh ht hc hne hE hf hhi
  go_enter Tryz.func11, Tryz.ntmps11
  go_upto_region 1 with (fail)
  refine abs_code (fun W => W.heap[w.heap.size]? = some (.cells (blindC n wd gp t sh) 33 (0, 0)) ∧ W.heap[w.heap.size + 1]? = some (.cells (sunC hs ts) 35 (0, 0)) ∧ W.heap[w.heap.size + 1 + 1]? = some (.cells (i16s zP) 30 (0, 0)) ∧ Below w.heap.size w W) ⟨(three_new _ _ _ _).1, (three_new _ _ _ _).2.1, (three_new _ _ _ _).2.2.1, (three_new _ _ _ _).2.2.2⟩ ?_
  rintro W ⟨h0, h1, h2, hb⟩
  have n01 : w.heap.size < w.heap.size + 1 := by omega
  have n12 : w.heap.size + 1 < w.heap.size + 1 + 1 := by omega
  have hle2 : w.heap.size ≤ w.heap.size + 1 + 1 := by omega
  generalize w.heap.size + 1 + 1 = b2 at *
  generalize w.heap.size + 1 = b1 at *
  have H0 := Lib.hid h0
  have H1 := Lib.hid h1
  have H2 := Lib.hid h2
  clear h0 h1 h2
  refine wp_region_held_drew (S := (fun V => Below W.heap.size W V)) (by kernel_rfl) (Below.refl _ _).drew (fun hHeld => ?_)
  refine take_op (i := 0) (d := 16) (v := .agg (blindC n wd gp t sh)) rfl rfl (by kernel_rfl) (by kernel_rfl) (by kernel_rfl) (fun _ _ _ h => h) (yields_row (by rfl) 33 (.tmp 4) (by rfl) w.heap.size 0 5 (by rfl) 33 (blindC n wd gp t sh) (0, 0) _ (fun _ h => below_row h H0.out) Tryz.underlying33 rfl info_blind (blind_fits _ _ _ _ _) (blindC n wd gp t sh) (blind_all _ _ _ _ _)) hHeld ?_
  simp only [List.setIfInBounds_toArray, List.set_cons_zero, List.set_cons_succ]
  refine take_op (i := 1) (d := 17) (v := .agg (sunC hs ts)) rfl rfl (by kernel_rfl) (by kernel_rfl) (by kernel_rfl) (fun _ _ _ h => h) (yields_row (by rfl) 35 (.tmp 5) (by rfl) b1 0 48 (by rfl) 35 (sunC hs ts) (0, 0) _ (fun _ h => below_row h H1.out) Tryz.underlying35 rfl info_sun (sun_fits _ _ Hh.out Ht.out) (sunC hs ts) (sun_all _ _ Hh.out Ht.out)) hHeld ?_
  simp only [List.setIfInBounds_toArray, List.set_cons_zero, List.set_cons_succ]
  refine take_op (i := 2) (d := 18) (v := ?_) rfl rfl (by kernel_rfl) (by kernel_rfl) (by kernel_rfl) (fun _ _ _ h => h) (Or.inl ⟨by rfl, ?hy2u303⟩) hHeld ?rest2u303
  case hy2u303 =>
    intro w' hS'
    go_simp
    try with_reducible rfl
  simp only [List.setIfInBounds_toArray, List.set_cons_zero, List.set_cons_succ]
  refine wpAnyH_ready (rs := [3]) (by kernel_rfl) (by simp) ?_
  refine AllReadyH.cons rfl (fun K hK => ?_) AllReadyH.nil
  go_simp
  refine (isFacing_is fc true HF.out _).mono ?_
  rintro e w' ⟨rfl, rfl⟩
  refine hK.out _ _ (hHeld) (fun hHeld2 => ?_)
  clear hK K
  replace hHeld := hHeld2
  clear hHeld2
  refine take_op (i := 4) (d := 20) (v := ?_) rfl rfl (by kernel_rfl) (by kernel_rfl) (by kernel_rfl) (fun _ _ _ h => h) (Or.inl ⟨by rfl, ?hy4u304⟩) hHeld ?rest4u304
  case hy4u304 =>
    intro w' hS'
    go_simp
    try with_reducible rfl
  simp only [List.setIfInBounds_toArray, List.set_cons_zero, List.set_cons_succ]
  refine take_op (i := 5) (d := 21) (v := ?_) rfl rfl (by kernel_rfl) (by kernel_rfl) (by kernel_rfl) (fun _ _ _ h => h) (Or.inl ⟨by rfl, ?hy5u305⟩) hHeld ?rest5u305
  case hy5u305 =>
    intro w' hS'
    go_simp
    try with_reducible rfl
  simp only [List.setIfInBounds_toArray, List.set_cons_zero, List.set_cons_succ]
  refine wpAnyH_ready (rs := [6]) (by kernel_rfl) (by simp) ?_
  refine AllReadyH.cons rfl (fun K hK => ?_) AllReadyH.nil
  go_simp
  refine (isPart_is hi hgh HHi.out _).mono ?_
  rintro e w' ⟨rfl, rfl⟩
  refine hK.out _ _ (hHeld) (fun hHeld2 => ?_)
  clear hK K
  replace hHeld := hHeld2
  clear hHeld2
  refine take_op (i := 7) (d := 23) (v := ?_) rfl rfl (by kernel_rfl) (by kernel_rfl) (by kernel_rfl) (fun _ _ _ h => h) (Or.inl ⟨by rfl, ?hy7u306⟩) hHeld ?rest7u306
  case hy7u306 =>
    intro w' hS'
    go_simp
    try with_reducible rfl
  simp only [List.setIfInBounds_toArray, List.set_cons_zero, List.set_cons_succ]
  refine wpAnyH_ready (rs := [8]) (by kernel_rfl) (by simp) ?_
  refine AllReadyH.cons rfl (fun K hK => ?_) AllReadyH.nil
  go_simp
  refine (HC.out _).mono ?_
  rintro e W1 ⟨rfl, hb1⟩
  refine hK.out _ _ (hHeld.trans (hb1.mono hHeld.size)) (fun hHeld2 => ?_)
  clear hK K
  replace hHeld := hHeld2
  clear hHeld2
  clear hb1
  refine take_op (i := 9) (d := 11) (v := ?_) rfl rfl (by kernel_rfl) (by kernel_rfl) (by kernel_rfl) (fun _ _ _ h => h) (Or.inl ⟨by rfl, ?hy9u307⟩) hHeld ?rest9u307
  case hy9u307 =>
    intro w' hS'
    go_simp
    try with_reducible rfl
  simp only [List.setIfInBounds_toArray, List.set_cons_zero, List.set_cons_succ]
  refine wpAnyH_done (by kernel_rfl) ?_ _
  replace H0 := Lib.hid (below_row hHeld H0.out)
  replace H1 := Lib.hid (below_row hHeld H1.out)
  replace H2 := Lib.hid (below_row hHeld H2.out)
  replace hb := hb.trans (hHeld.mono hb.size)
  clear hHeld
  go_wp2_with (first | (refine wpList_buildL rfl 30 _ rfl _ rfl [] rfl (i16s zP) HZB.out ?_) | (go_at_call 23; refine (HD.out _ (errT_below HE0.out hb)).mono ?_; rintro e W9 ⟨rfl, hb1⟩; replace H2 := Lib.hid (below_row hb1 H2.out); replace hb := hb.trans (hb1.mono hb.size); clear hb1) | (refine wpList_store_part rfl 30 _ _ rfl b2 0 (i16s zP) rfl rfl 30 (i16s zP) H2.out info_plan (Nat.le_refl _) zP_one ?_; rw [laid_all _ _ (by rfl)]))
  refine bodyPost_ret (results_plan rfl _ _ b2 zP zP_len rfl (setRow_heap _ _ _ _ _ _ H2.out)) rfl ?_
  exact ⟨rfl, below_setRow hb hle2 _⟩

set_option maxRecDepth 100000 in
set_option maxHeartbeats 8000000 in
theorem iBest_yes (n : Int) (wd gp : Nat) (t : Int) (sh : Nat) (hs ts : List Int) (hh : hs.length = 24) (ht : ts.length = 24) (fc : Int) (hi : Nat) (bw : BlWf n wd gp t sh) (T0 : -32768 ≤ t) (T1 : t ≤ 32767) (hf : inF fc = true) (hhi : partB hi = true) (hc : cdP true (okBl n wd gp t sh) (okB hs ts) true = 0) (T : Nat → List Int) (hT : T = (fun h : Nat => wantT (kpB hs ts fc 0 hi wd gp sh (h : Int)) (tls 129))) (g : Nat → Int → Nat) (hgd : g = (fun (h : Nat) (x : Int) => winB wd gp x sh hs ts (h : Int) fc))
    (p : List Int) (hp : ∀ k, k = 24 → bpL g T k = p) (sB : Nat) (hsB : ∀ k, k = 24 → sumTo (fun j => g j (bpT (g j) (T j))) k = sB) (pl : List Int) (vv : Nat) (cc : Int) (hA : (∀ h, h < 24 → T h ≠ []) → pl = p ∧ vv = sB ∧ cc = 0) (hB : (∃ h, h < 24 ∧ T h = []) → pl = zP ∧ vv = 0 ∧ cc = 6) (w : World) (hE : ErrT w) :
    Calls Tryz.prog 11 #[.agg (blindC n wd gp t sh), .agg (sunC hs ts), .int .i64 fc, .float .f32 hi] w fun e w' => e = .returned (.tuple #[.agg (i16s pl), .float .f32 vv, .int .i64 cc]) ∧ Below w.heap.size w w' := by
  have HC := Lib.hid (fun w => checkDay_ok n wd gp t sh hs ts hh ht T0 T1 true hc w)
  obtain ⟨_, hk, hos, _⟩ := cdP_yes hc
  have OK := blok_of bw hk
  have dh : DyHr hs ts fc := ⟨fun k hk => hrok_of hh ht hos (by omega) (by omega) hf⟩
  have HDO := Lib.hid (fun w => dayOf_any hs ts hh ht fc 0 hi n wd gp t sh w)
  have HAT : Hid (∀ w, Calls Tryz.prog 25 #[.agg (dayC hs ts fc 0 hi n wd gp t sh)] w (AllT w T)) := by rw [hT]; exact fun w => allTilts_any hs ts hh ht fc 0 hi n wd gp t sh OK dh w
  have hb64 : ∀ j, j < 24 → ∀ x ∈ T j, -64 ≤ x ∧ x ≤ 64 := by rw [hT]; exact fun j _ x hx => want_tilt hx
  have hlen : ∀ j, (T j).length ≤ 129 := by
    rw [hT]
    intro j
    refine Nat.le_trans (wantT_len _ _) ?_
    simp [tls]
  have hpl : p.length = 24 := by rw [← hp 24 rfl]; exact bpL_len g T (Nat.le_refl _)
  have HBR := Lib.hid (fun (hne : ∀ j, j < 24 → T j ≠ []) zs hzs w hv => brightest_any hs ts hh ht fc 0 hi n wd gp t sh OK dh zs hzs T hne hb64 hlen w hv g hgd p hp)
  obtain ⟨zl, hzl⟩ : ∃ zl : List Nat, zl = (List.range 24).map (fun k : Nat => winB wd gp (p[k]?.getD 0) sh hs ts (k : Int) fc) := ⟨_, rfl⟩
  have hok : (∀ j, j < 24 → T j ≠ []) → okP p = true := fun h => by rw [← hp 24 rfl]; exact bpL_ok h hb64
  have HLG0 : Hid ((∀ j, j < 24 → T j ≠ []) → ∀ w, Calls Tryz.prog 31 #[.agg (dayC hs ts fc 0 hi n wd gp t sh), .agg (i16s p)] w fun e w' => (∃ v, e = .returned v ∧ Own w' w.heap.size 23 (Value.float .f32) v zl) ∧ Below w.heap.size w w') := by
    rw [hzl]
    exact fun h w => lights_any hs ts hh ht fc 0 hi n wd gp t sh OK dh p hpl (hok h) w
  have HAD0 : Hid (∀ sv w, FloatsAt w sv zl → Calls Tryz.prog 30 #[sv] w fun e w' => e = .returned (.float .f32 sB) ∧ w = w') := by
    have hq : ∀ z ∈ zl, pos32 z = true := by
      rw [hzl]
      intro z hz
      obtain ⟨k, hk, rfl⟩ := List.mem_map.1 hz
      exact winB_pos wd gp _ OK.2.2.2.2.2.2.2.2 hs ts (k : Int) fc (dh.all k (List.mem_range.1 hk)).x1
    have e : sumL zl zl.length = sB := by
      rw [hzl, sumL_range, ← hsB 24 rfl]
      refine sumTo_congr 24 fun j hj => ?_
      rw [← hp 24 rfl, bpL_get g T hj, hgd]
    exact fun sv w hz => by have h := addedP_any sv zl hq w hz; rw [e] at h; exact h
  have HPL := Lib.hid hpl
  have HF := Lib.hid hf
  have HHi := Lib.hid hhi
  have Hh := Lib.hid hh
  have Ht := Lib.hid ht
  have HZB : Hid (Tryz.prog.built 30 [] = some (i16s zP)) := by unfold Hid; kernel_rfl
  have hn := fun w => run_neq_nil_nil (P := Tryz.prog) (w := w) 56 (by kernel_rfl)
  have HBT : Hid (Tryz.prog.built 64 [(0, .float .f32 0), (1, .float .f32 hi)] = some (bnC 0 hi)) := by unfold Hid; kernel_rfl
  have HE0 := Lib.hid hE
  have HAA := Lib.hid hA
  have HBB := Lib.hid hB
  clear hh ht hc hf hhi OK dh bw hE hA hB hp hb64 hlen hpl hT hok hzl hgd hsB
  go_enter Tryz.func11, Tryz.ntmps11
  go_upto_region 1 with (fail)
  refine abs_code (fun W => W.heap[w.heap.size]? = some (.cells (blindC n wd gp t sh) 33 (0, 0)) ∧ W.heap[w.heap.size + 1]? = some (.cells (sunC hs ts) 35 (0, 0)) ∧ W.heap[w.heap.size + 1 + 1]? = some (.cells (i16s zP) 30 (0, 0)) ∧ Below w.heap.size w W) ⟨(three_new _ _ _ _).1, (three_new _ _ _ _).2.1, (three_new _ _ _ _).2.2.1, (three_new _ _ _ _).2.2.2⟩ ?_
  rintro W ⟨h0, h1, h2, hb⟩
  have n01 : w.heap.size < w.heap.size + 1 := by omega
  have n12 : w.heap.size + 1 < w.heap.size + 1 + 1 := by omega
  have hle2 : w.heap.size ≤ w.heap.size + 1 + 1 := by omega
  generalize w.heap.size + 1 + 1 = b2 at *
  generalize w.heap.size + 1 = b1 at *
  have H0 := Lib.hid h0
  have H1 := Lib.hid h1
  have H2 := Lib.hid h2
  clear h0 h1 h2
  refine wp_region_held_drew (S := (fun V => Below W.heap.size W V)) (by kernel_rfl) (Below.refl _ _).drew (fun hHeld => ?_)
  refine take_op (i := 0) (d := 16) (v := .agg (blindC n wd gp t sh)) rfl rfl (by kernel_rfl) (by kernel_rfl) (by kernel_rfl) (fun _ _ _ h => h) (yields_row (by rfl) 33 (.tmp 4) (by rfl) w.heap.size 0 5 (by rfl) 33 (blindC n wd gp t sh) (0, 0) _ (fun _ h => below_row h H0.out) Tryz.underlying33 rfl info_blind (blind_fits _ _ _ _ _) (blindC n wd gp t sh) (blind_all _ _ _ _ _)) hHeld ?_
  simp only [List.setIfInBounds_toArray, List.set_cons_zero, List.set_cons_succ]
  refine take_op (i := 1) (d := 17) (v := .agg (sunC hs ts)) rfl rfl (by kernel_rfl) (by kernel_rfl) (by kernel_rfl) (fun _ _ _ h => h) (yields_row (by rfl) 35 (.tmp 5) (by rfl) b1 0 48 (by rfl) 35 (sunC hs ts) (0, 0) _ (fun _ h => below_row h H1.out) Tryz.underlying35 rfl info_sun (sun_fits _ _ Hh.out Ht.out) (sunC hs ts) (sun_all _ _ Hh.out Ht.out)) hHeld ?_
  simp only [List.setIfInBounds_toArray, List.set_cons_zero, List.set_cons_succ]
  refine take_op (i := 2) (d := 18) (v := ?_) rfl rfl (by kernel_rfl) (by kernel_rfl) (by kernel_rfl) (fun _ _ _ h => h) (Or.inl ⟨by rfl, ?hy2u308⟩) hHeld ?rest2u308
  case hy2u308 =>
    intro w' hS'
    go_simp
    try with_reducible rfl
  simp only [List.setIfInBounds_toArray, List.set_cons_zero, List.set_cons_succ]
  refine wpAnyH_ready (rs := [3]) (by kernel_rfl) (by simp) ?_
  refine AllReadyH.cons rfl (fun K hK => ?_) AllReadyH.nil
  go_simp
  refine (isFacing_is fc true HF.out _).mono ?_
  rintro e w' ⟨rfl, rfl⟩
  refine hK.out _ _ (hHeld) (fun hHeld2 => ?_)
  clear hK K
  replace hHeld := hHeld2
  clear hHeld2
  refine take_op (i := 4) (d := 20) (v := ?_) rfl rfl (by kernel_rfl) (by kernel_rfl) (by kernel_rfl) (fun _ _ _ h => h) (Or.inl ⟨by rfl, ?hy4u309⟩) hHeld ?rest4u309
  case hy4u309 =>
    intro w' hS'
    go_simp
    try with_reducible rfl
  simp only [List.setIfInBounds_toArray, List.set_cons_zero, List.set_cons_succ]
  refine take_op (i := 5) (d := 21) (v := ?_) rfl rfl (by kernel_rfl) (by kernel_rfl) (by kernel_rfl) (fun _ _ _ h => h) (Or.inl ⟨by rfl, ?hy5u310⟩) hHeld ?rest5u310
  case hy5u310 =>
    intro w' hS'
    go_simp
    try with_reducible rfl
  simp only [List.setIfInBounds_toArray, List.set_cons_zero, List.set_cons_succ]
  refine wpAnyH_ready (rs := [6]) (by kernel_rfl) (by simp) ?_
  refine AllReadyH.cons rfl (fun K hK => ?_) AllReadyH.nil
  go_simp
  refine (isPart_is hi true HHi.out _).mono ?_
  rintro e w' ⟨rfl, rfl⟩
  refine hK.out _ _ (hHeld) (fun hHeld2 => ?_)
  clear hK K
  replace hHeld := hHeld2
  clear hHeld2
  refine take_op (i := 7) (d := 23) (v := ?_) rfl rfl (by kernel_rfl) (by kernel_rfl) (by kernel_rfl) (fun _ _ _ h => h) (Or.inl ⟨by rfl, ?hy7u311⟩) hHeld ?rest7u311
  case hy7u311 =>
    intro w' hS'
    go_simp
    try with_reducible rfl
  simp only [List.setIfInBounds_toArray, List.set_cons_zero, List.set_cons_succ]
  refine wpAnyH_ready (rs := [8]) (by kernel_rfl) (by simp) ?_
  refine AllReadyH.cons rfl (fun K hK => ?_) AllReadyH.nil
  go_simp
  refine (HC.out _).mono ?_
  rintro e W1 ⟨rfl, hb1⟩
  refine hK.out _ _ (hHeld.trans (hb1.mono hHeld.size)) (fun hHeld2 => ?_)
  clear hK K
  replace hHeld := hHeld2
  clear hHeld2
  clear hb1
  refine take_op (i := 9) (d := 11) (v := ?_) rfl rfl (by kernel_rfl) (by kernel_rfl) (by kernel_rfl) (fun _ _ _ h => h) (Or.inl ⟨by rfl, ?hy9u312⟩) hHeld ?rest9u312
  case hy9u312 =>
    intro w' hS'
    go_simp
    try with_reducible rfl
  simp only [List.setIfInBounds_toArray, List.set_cons_zero, List.set_cons_succ]
  refine wpAnyH_done (by kernel_rfl) ?_ _
  replace H0 := Lib.hid (below_row hHeld H0.out)
  replace H1 := Lib.hid (below_row hHeld H1.out)
  replace H2 := Lib.hid (below_row hHeld H2.out)
  replace hb := hb.trans (hHeld.mono hb.size)
  clear hHeld
  go_upto_region 5 with (first | (refine wpList_load_part rfl 33 _ rfl w.heap.size 0 5 rfl 33 (blindC n wd gp t sh) (0, 0) _ H0.out Tryz.underlying33 rfl info_blind (blind_fits _ _ _ _ _) _ (blind_all _ _ _ _ _) ?_) | (refine wpList_load_part rfl 35 _ rfl b1 0 48 rfl 35 (sunC hs ts) (0, 0) _ H1.out Tryz.underlying35 rfl info_sun (sun_fits _ _ Hh.out Ht.out) _ (sun_all _ _ Hh.out Ht.out) ?_) | (refine wpList_buildL rfl 64 _ rfl _ rfl [(0, .float .f32 0), (1, .float .f32 hi)] rfl (bnC 0 hi) HBT.out ?_) | (go_at_call 24; refine (HDO.out _).mono ?_; rintro e W4 ⟨rfl, hb1⟩; replace H0 := Lib.hid (below_row hb1 H0.out); replace H1 := Lib.hid (below_row hb1 H1.out); replace H2 := Lib.hid (below_row hb1 H2.out); replace hb := hb.trans (hb1.mono hb.size); clear hb1) | (refine wpList_store_part rfl 66 _ _ rfl _ 0 (dayC hs ts fc 0 hi n wd gp t sh) rfl rfl 66 _ (heap_alloc_new _ _) (by rw [dayC_size hs ts Hh.out Ht.out fc 0 hi n wd gp t sh]; exact info_dy) (by rw [dayC_size hs ts Hh.out Ht.out fc 0 hi n wd gp t sh]; decide) (dy_one hs ts fc 0 hi n wd gp t sh) ?_; rw [laid_all _ _ (by rw [dayC_size hs ts Hh.out Ht.out fc 0 hi n wd gp t sh]; rfl)]))
  refine abs_code (fun V => V.heap[b2]? = some (.cells (i16s zP) 30 (0, 0)) ∧ V.heap[W4.heap.size]? = some (.cells (dayC hs ts fc 0 hi n wd gp t sh) 66 (0, 0)) ∧ Below w.heap.size w V) ⟨(setRow_other _ _ _ _ (by have := row_lt H2.out; omega)).trans (below_row ((Below.refl W4.heap.size _).alloc (Nat.le_refl _) _) H2.out), setRow_heap _ _ _ _ _ _ (heap_alloc_new _ _), below_setRow (hb.alloc hb.size _) hb.size _⟩ ?_
  have hb24 : b2 < W4.heap.size := row_lt H2.out
  clear H0 H1 H2 hb HDO HBT
  generalize W4.heap.size = g4 at *
  rintro V0 ⟨h2, h4, hb⟩
  have H2 := Lib.hid h2
  have H4 := Lib.hid h4
  clear h2 h4
  go_upto_region 6 with (first | (refine wpList_load_part rfl 66 _ rfl g4 0 56 rfl 66 (dayC hs ts fc 0 hi n wd gp t sh) (0, 0) _ H4.out Tryz.underlying66 rfl info_dy (dy_fits 56 (by decide) hs ts Hh.out Ht.out fc 0 hi n wd gp t sh) (dayC hs ts fc 0 hi n wd gp t sh) (dy_all hs ts Hh.out Ht.out fc 0 hi n wd gp t sh) ?_) | (go_at_call 25; refine (HAT.out _).mono ?_; rintro e W5 ⟨zs, er, rfl, hzs, hone, hb5, hor⟩; have HB5 := Lib.hid hb5; have HZS := Lib.hid hzs; have HON := Lib.hid hone; have HOR := Lib.hid hor; clear hb5 hzs hone hor) | (refine wpList_store_part rfl 59 _ _ rfl _ 0 zs rfl rfl 59 _ (heap_alloc_new _ _) (by rw [HZS.out]; exact info_59) (by rw [HZS.out]; decide) HON.out ?_; rw [laid_all _ _ (by rw [HZS.out]; rfl)]))
  have hbB : Below V0.heap.size V0 W5 := HB5.out
  have hb45 : g4 < W5.heap.size := row_lt (below_row hbB H4.out)
  refine abs_code (fun V => V.heap[b2]? = some (.cells (i16s zP) 30 (0, 0)) ∧ V.heap[W5.heap.size]? = some (.cells zs 59 (0, 0)) ∧ V.heap[g4]? = some (.cells (dayC hs ts fc 0 hi n wd gp t sh) 66 (0, 0)) ∧ Below W5.heap.size W5 V ∧ Below w.heap.size w V) ⟨(setRow_other _ _ _ _ (by have := row_lt (below_row hbB H2.out); omega)).trans (below_row ((Below.refl W5.heap.size _).alloc (Nat.le_refl _) _) (below_row hbB H2.out)), setRow_heap _ _ _ _ _ _ (heap_alloc_new _ _), (setRow_other _ _ _ _ (by omega)).trans (below_row ((Below.refl W5.heap.size _).alloc (Nat.le_refl _) _) (below_row hbB H4.out)), below_setRow ((Below.refl W5.heap.size _).alloc (Nat.le_refl _) _) (Nat.le_refl _) _, below_setRow ((hb.trans (hbB.mono hb.size)).alloc (Nat.le_trans hb.size hbB.size) _) (Nat.le_trans hb.size hbB.size) _⟩ ?_
  have hb25 : b2 < W5.heap.size := row_lt (below_row hbB H2.out)
  clear H2 H4 hb hbB HAT
  rintro V ⟨h2, h5, h4, hbv5, hb⟩
  have H2 := Lib.hid h2
  have H4 := Lib.hid h4
  have H5 := Lib.hid h5
  have HV5 := Lib.hid hbv5
  clear h2 h4 h5 hbv5
  rcases HOR.out with ⟨rfl, hall⟩ | ⟨k, hk, hTk, rfl⟩
  · obtain ⟨e1, e2, e3⟩ := HAA.out (fun h hh => (hall h hh).1)
    subst e1 e2 e3
    have HLI : Hid (∀ j, j < 24 → ∃ v, zs[j]? = some v ∧ IntsAt V v (T j)) := Lib.hid (fun j hj => (hall j hj).2.imp fun v hv => ⟨hv.1, ints_below (own_intsF hv.2) HV5.out⟩)
    have HNE := Lib.hid (fun j hj => (hall j hj).1)
    have HLG := Lib.hid (HLG0.out HNE.out)
    have HAD := HAD0
    clear hall HOR HAA HBB HLG0 HAD0
    go_upto_region 9 with (first | (refine wpList_load_part rfl 66 _ rfl g4 0 56 rfl 66 (dayC hs ts fc 0 hi n wd gp t sh) (0, 0) _ H4.out Tryz.underlying66 rfl info_dy (dy_fits 56 (by decide) hs ts Hh.out Ht.out fc 0 hi n wd gp t sh) (dayC hs ts fc 0 hi n wd gp t sh) (dy_all hs ts Hh.out Ht.out fc 0 hi n wd gp t sh) ?_) | (refine wpList_load_part rfl 59 _ rfl W5.heap.size 0 24 rfl 59 (zs) (0, 0) _ H5.out Tryz.underlying59 rfl info_59 (by rw [HZS.out]; decide) (zs) (by rw [Nat.zero_add, ← HZS.out, Array.extract_size]) ?_) | (go_at_call 29; refine (HBR.out HNE.out zs HZS.out _ HLI.out).mono ?_; rintro e W6 ⟨rfl, hb6⟩; replace H2 := Lib.hid (below_row hb6 H2.out); replace H4 := Lib.hid (below_row hb6 H4.out); replace hb := hb.trans (hb6.mono hb.size); clear hb6) | (refine wpList_store_part rfl 30 _ _ rfl _ 0 (i16s pl) rfl rfl 30 _ (heap_alloc_new _ _) (by rw [i16s_size, HPL.out]; exact info_plan) (by rw [i16s_size, HPL.out]; decide) (i16s_one _) ?_; rw [laid_all _ _ (by rw [i16s_size, HPL.out]; rfl)]))
    refine abs_code (fun U => U.heap[b2]? = some (.cells (i16s zP) 30 (0, 0)) ∧ U.heap[W6.heap.size]? = some (.cells (i16s pl) 30 (0, 0)) ∧ U.heap[g4]? = some (.cells (dayC hs ts fc 0 hi n wd gp t sh) 66 (0, 0)) ∧ Below w.heap.size w U) ⟨(setRow_other _ _ _ _ (by have := row_lt H2.out; omega)).trans (below_row ((Below.refl W6.heap.size _).alloc (Nat.le_refl _) _) H2.out), setRow_heap _ _ _ _ _ _ (heap_alloc_new _ _), (setRow_other _ _ _ _ (by have := row_lt H4.out; omega)).trans (below_row ((Below.refl W6.heap.size _).alloc (Nat.le_refl _) _) H4.out), below_setRow (hb.alloc hb.size _) hb.size _⟩ ?_
    have hb26 := row_lt H2.out
    have hw6 := hb.size
    clear H2 H4 H5 hb HLI HNE HV5 HBR
    generalize W6.heap.size = g6 at *
    rintro U ⟨h2, h6, h4, hb⟩
    have H2 := Lib.hid h2
    have H4 := Lib.hid h4
    have H6 := Lib.hid h6
    clear h2 h4 h6
    try dsimp only [Act.put]
    refine wp_region_held_drew (S := (fun X => X.heap[g6]? = some (.cells (i16s pl) 30 (0, 0)) ∧ X.heap[g4]? = some (.cells (dayC hs ts fc 0 hi n wd gp t sh) 66 (0, 0)) ∧ (∃ zz : Array Value, zz.size = 24 ∧ X.heap[b2]? = some (.cells zz 30 (0, 0))) ∧ Below w.heap.size w X)) (by kernel_rfl) ⟨H6.out, H4.out, ⟨_, rfl, H2.out⟩, hb.drew⟩ (fun hHeld => ?_)
    refine take_op (i := 0) (d := 49) (v := .agg (i16s pl)) rfl rfl (by kernel_rfl) (by kernel_rfl) (by kernel_rfl) (fun _ _ _ h => h) (yields_row (by rfl) 30 (.tmp 15) (by rfl) g6 0 24 (by rfl) 30 (i16s pl) (0, 0) _ (fun _ h => h.1) Tryz.underlying30 rfl info_plan (by rw [i16s_size, HPL.out]; decide) (i16s pl) (i16s_all _ 24 HPL.out)) hHeld ?_
    simp only [List.setIfInBounds_toArray, List.set_cons_zero, List.set_cons_succ]
    refine take_op (i := 1) (d := 50) (v := .agg (dayC hs ts fc 0 hi n wd gp t sh)) rfl rfl (by kernel_rfl) (by kernel_rfl) (by kernel_rfl) (fun _ _ _ h => h) (yields_row (by rfl) 66 (.tmp 12) (by rfl) g4 0 56 (by rfl) 66 (dayC hs ts fc 0 hi n wd gp t sh) (0, 0) _ (fun _ h => h.2.1) Tryz.underlying66 rfl info_dy (dy_fits 56 (by decide) hs ts Hh.out Ht.out fc 0 hi n wd gp t sh) (dayC hs ts fc 0 hi n wd gp t sh) (dy_all hs ts Hh.out Ht.out fc 0 hi n wd gp t sh)) hHeld ?_
    simp only [List.setIfInBounds_toArray, List.set_cons_zero, List.set_cons_succ]
    refine take_op (i := 2) (d := 51) (v := .agg (i16s pl)) rfl rfl (by kernel_rfl) (by kernel_rfl) (by kernel_rfl) (fun _ _ _ h => h) (yields_row (by rfl) 30 (.tmp 15) (by rfl) g6 0 24 (by rfl) 30 (i16s pl) (0, 0) _ (fun _ h => h.1) Tryz.underlying30 rfl info_plan (by rw [i16s_size, HPL.out]; decide) (i16s pl) (i16s_all _ 24 HPL.out)) hHeld ?_
    simp only [List.setIfInBounds_toArray, List.set_cons_zero, List.set_cons_succ]
    have H2d : Hid (U.drew.heap[b2]? = some (.cells (i16s zP) 30 (0, 0))) := H2.out
    generalize U.drew = X0 at *
    refine wpAnyH_ready (rs := [3]) (by kernel_rfl) (by simp) ?_
    refine AllReadyH.cons rfl (fun K hK => ?_) AllReadyH.nil
    go_simp
    refine (HLG.out _).mono ?_
    rintro e X1 ⟨⟨v, rfl, hv⟩, hb1⟩
    have HVL := Lib.hid (own_floatsB hv)
    have H2x := Lib.hid (below_row hb1 H2d.out)
    refine hK.out _ _ ⟨below_row hb1 hHeld.1, below_row hb1 hHeld.2.1, ⟨_, rfl, H2x.out⟩, hHeld.2.2.2.trans (hb1.mono hHeld.2.2.2.size)⟩ (fun hHeld2 => ?_)
    clear hK K hb1 hv
    replace hHeld := hHeld2
    clear hHeld2
    refine wpAnyH_ready (rs := [4]) (by kernel_rfl) (by simp) ?_
    refine AllReadyH.cons rfl (fun K hK => ?_) AllReadyH.nil
    go_simp
    refine (HAD.out _ _ HVL.out).mono ?_
    rintro e w' ⟨rfl, rfl⟩
    refine hK.out _ _ hHeld (fun hHeld2 => ?_)
    clear hK K
    replace hHeld := hHeld2
    clear hHeld2
    have hst := run_store_rowC (P := Tryz.prog) _ b2 30 (i16s pl) _ H2x.out (by rw [i16s_size, i16s_size, HPL.out]; rfl) (i16s_one _)
    refine wpAnyH_ready (rs := [5]) (by kernel_rfl) (by simp) ?_
    refine AllReadyH.cons rfl (fun K hK => ?_) AllReadyH.nil
    have hpl24 : pl.length = 24 := HPL.out
    go_simp
    refine hK.out _ _ ⟨(setRow_other _ _ _ _ (by omega)).trans hHeld.1, (setRow_other _ _ _ _ (by omega)).trans hHeld.2.1, ⟨_, (by rw [i16s_size]; exact HPL.out), setRow_heap _ _ _ _ _ _ H2x.out⟩, below_setRow hHeld.2.2.2 hle2 _⟩ (fun hHeld2 => ?_)
    clear hK K hst hpl24
    have HR := Lib.hid (setRow_heap _ _ _ (i16s pl) _ _ H2x.out)
    replace hHeld := hHeld2
    clear hHeld2
    refine take_op (i := 6) (d := 9) (v := ?_) rfl rfl (by kernel_rfl) (by kernel_rfl) (by kernel_rfl) (fun _ _ _ h => h) (Or.inl ⟨by rfl, ?hy6u313⟩) hHeld ?rest6u313
    case hy6u313 =>
      intro w' hS'
      go_simp
      try with_reducible rfl
    simp only [List.setIfInBounds_toArray, List.set_cons_zero, List.set_cons_succ]
    refine take_op (i := 7) (d := 10) (v := ?_) rfl rfl (by kernel_rfl) (by kernel_rfl) (by kernel_rfl) (fun _ _ _ h => h) (Or.inl ⟨by rfl, ?hy7u314⟩) hHeld ?rest7u314
    case hy7u314 =>
      intro w' hS'
      go_simp
      try with_reducible rfl
    simp only [List.setIfInBounds_toArray, List.set_cons_zero, List.set_cons_succ]
    refine wpAnyH_done (by kernel_rfl) ?_ _
    have hbx := hHeld.2.2.2
    have hr := HR.out
    clear hHeld
    go_wp2
    refine bodyPost_ret (results_plan rfl _ _ b2 pl HPL.out rfl hr) rfl ?_
    exact ⟨rfl, hbx⟩
  · obtain ⟨e1, e2, e3⟩ := HBB.out ⟨k, hk, hTk⟩
    subst e1 e2 e3
    have hn2 := fun w => run_neq_held_nil (P := Tryz.prog) (w := w) 56 86 (.agg #[.int .i64 (k : Int)]) (by kernel_rfl)
    have HD := Lib.hid (fun w hE => codeD_hour (k : Int) w hE)
    clear HOR HAA HBB HBR HLG0 HAD0 hn
    go_wp2_with (first | (refine wpList_buildL rfl 30 _ rfl _ rfl [] rfl (i16s zP) HZB.out ?_) | (go_at_call 23; refine (HD.out _ (errT_below HE0.out hb)).mono ?_; rintro e W9 ⟨rfl, hb1⟩; replace H2 := Lib.hid (below_row hb1 H2.out); replace hb := hb.trans (hb1.mono hb.size); clear hb1) | (refine wpList_store_part rfl 30 _ _ rfl b2 0 (i16s zP) rfl rfl 30 (i16s zP) H2.out info_plan (Nat.le_refl _) zP_one ?_; rw [laid_all _ _ (by rfl)]))
    refine bodyPost_ret (results_plan rfl _ _ b2 zP zP_len rfl (setRow_heap _ _ _ _ _ _ H2.out)) rfl ?_
    exact ⟨rfl, below_setRow hb hle2 _⟩

end Go.Proofs.YtmniodfdoidffaaGreatDoor

namespace Go.Proofs.YtmniodfdoidffaaGreatDoor
open Go.ChangeShapes Go.WideShapes Go.ChangeAt Go.RowKit Go.Deep Go.Joins

attribute [local go_sem] run_store_f

set_option maxRecDepth 100000 in
set_option maxHeartbeats 16000000 in
theorem FnExactBrightestPlan_core (n : Int) (wd gp : Nat) (t : Int) (sh : Nat) (hs ts : List Int) (hh : hs.length = 24) (ht : ts.length = 24) (fc : Int) (hi : Nat) (xp : List Int) (hxp : xp.length = 24) (v1 : Nat) (hv1 : fin32 v1 = true) (v2 : Int)
    (hspec : ∀ w, Calls Tryz.prog 10 #[.agg (blindC n wd gp t sh), .agg (sunC hs ts), .int .i64 fc, .float .f32 hi] w fun e w' => e = .returned (.tuple #[.agg (i16s xp), .float .f32 v1, .int .i64 v2]) ∧ Below w.heap.size w w')
    (himpl : ∀ w, ErrT w → Calls Tryz.prog 11 #[.agg (blindC n wd gp t sh), .agg (sunC hs ts), .int .i64 fc, .float .f32 hi] w fun e w' => e = .returned (.tuple #[.agg (i16s xp), .float .f32 v1, .int .i64 v2]) ∧ Below w.heap.size w w') (w : World) (hE : ErrT w) :
    Calls Tryz.prog 4 #[.agg (blindC n wd gp t sh), .agg (sunC hs ts), .int .i64 fc, .float .f32 hi] w fun e w' => e = .returned (.bool true) ∧ Below w.heap.size w w' := by
  have HS := Lib.hid hspec
  have HI := Lib.hid himpl
  have Hxp := Lib.hid hxp
  have Hh := Lib.hid hh
  have Ht := Lib.hid ht
  have HX := Lib.hid hE
  have hw1 := run_wide _ hv1
  have Hv1 := Lib.hid hv1
  clear hv1
  have zc0 : (v2 != v2) = false := by simp

  clear hspec himpl hxp hh ht hE
  go_enter Tryz.func4, Tryz.ntmps4
  go_upto_region 1 with (fail)
  refine abs_code (fun W => W.heap[w.heap.size]? = some (.cells (blindC n wd gp t sh) 26 (0, 0)) ∧ W.heap[w.heap.size + 1]? = some (.cells (sunC hs ts) 29 (0, 0)) ∧ Below w.heap.size w W) ⟨(two_newQ _ _ _).1, (two_newQ _ _ _).2.1, (two_newQ _ _ _).2.2⟩ ?_
  rintro W ⟨h0, h1, hb⟩
  generalize w.heap.size + 1 = b1 at *
  have H0 := Lib.hid h0
  have H1 := Lib.hid h1
  clear h0 h1
  go_cut [9, 10, 11] (fun s sa sb wx => ∃ g : Nat, s = .pointer (some ⟨g, 0, none⟩) ∧ sa = .float .f32 v1 ∧ sb = .int .i64 v2 ∧ W.heap.size ≤ g ∧ wx.heap[g]? = some (.cells (i16s xp) 30 (0, 0)) ∧ Below W.heap.size W wx)
  case first =>
    refine wp_region_held_drew (S := (fun V => Below W.heap.size W V)) (by kernel_rfl) (Below.refl _ _).drew (fun hHeld => ?_)
    generalize W.drew = Y0 at *
    refine take_op (i := 0) (d := 16) (v := .agg (blindC n wd gp t sh)) rfl rfl (by kernel_rfl) (by kernel_rfl) (by kernel_rfl) (fun _ _ _ h => h) (yields_row (by rfl) 26 (.tmp 4) (by rfl) w.heap.size 0 5 (by rfl) 26 (blindC n wd gp t sh) (0, 0) _ (fun _ h => below_row h H0.out) Tryz.underlying26 rfl info_blindL (blind_fits _ _ _ _ _) (blindC n wd gp t sh) (blind_all _ _ _ _ _)) hHeld ?_
    simp only [List.setIfInBounds_toArray, List.set_cons_zero, List.set_cons_succ]
    refine take_op (i := 2) (d := 18) (v := .agg (sunC hs ts)) rfl rfl (by kernel_rfl) (by kernel_rfl) (by kernel_rfl) (fun _ _ _ h => h) (yields_row (by rfl) 29 (.tmp 5) (by rfl) b1 0 48 (by rfl) 29 (sunC hs ts) (0, 0) _ (fun _ h => below_row h H1.out) Tryz.underlying29 rfl info_sunL (sun_fits _ _ Hh.out Ht.out) (sunC hs ts) (sun_all _ _ Hh.out Ht.out)) hHeld ?_
    simp only [List.setIfInBounds_toArray, List.set_cons_zero, List.set_cons_succ]
    refine take_op (i := 4) (d := 20) (v := ?_) rfl rfl (by kernel_rfl) (by kernel_rfl) (by kernel_rfl) (fun _ _ _ h => h) (Or.inl ⟨by rfl, ?hy4u315⟩) hHeld ?rest4u315
    case hy4u315 =>
      intro w' hS'
      go_simp
      try with_reducible rfl
    simp only [List.setIfInBounds_toArray, List.set_cons_zero, List.set_cons_succ]
    refine take_op (i := 5) (d := 21) (v := ?_) rfl rfl (by kernel_rfl) (by kernel_rfl) (by kernel_rfl) (fun _ _ _ h => h) (Or.inl ⟨by rfl, ?hy5u316⟩) hHeld ?rest5u316
    case hy5u316 =>
      intro w' hS'
      go_simp
      try with_reducible rfl
    simp only [List.setIfInBounds_toArray, List.set_cons_zero, List.set_cons_succ]
    refine wpAnyH_ready (rs := [1, 11]) (by kernel_rfl) (by simp) ?_
    refine AllReadyH.cons rfl (fun K hK => ?_) (AllReadyH.cons rfl (fun K hK => ?_) (AllReadyH.nil))
    · go_simp
      refine (toBlind_any _ _ _ _ _ _).mono ?_
      rintro e Y1a ⟨rfl, hb1⟩
      refine hK.out _ _ (hHeld.trans (hb1.mono hHeld.size)) (fun hHeld2 => ?_)
      clear hK K
      replace hHeld := hHeld2
      clear hHeld2
      clear hb1
      refine wpAnyH_ready (rs := [3, 11]) (by kernel_rfl) (by simp) ?_
      refine AllReadyH.cons rfl (fun K hK => ?_) (AllReadyH.cons rfl (fun K hK => ?_) (AllReadyH.nil))
      · go_simp
        refine (toSun_any hs ts Hh.out Ht.out _).mono ?_
        rintro e Y2a ⟨rfl, hb1⟩
        refine hK.out _ _ (hHeld.trans (hb1.mono hHeld.size)) (fun hHeld2 => ?_)
        clear hK K
        replace hHeld := hHeld2
        clear hHeld2
        clear hb1
        refine wpAnyH_ready (rs := [6, 11]) (by kernel_rfl) (by simp) ?_
        refine AllReadyH.cons rfl (fun K hK => ?_) (AllReadyH.cons rfl (fun K hK => ?_) (AllReadyH.nil))
        · go_simp
          refine (HS.out _).mono ?_
          rintro e Y3a ⟨rfl, hb1⟩
          refine hK.out _ _ (hHeld.trans (hb1.mono hHeld.size)) (fun hHeld2 => ?_)
          clear hK K
          replace hHeld := hHeld2
          clear hHeld2
          clear hb1
          refine take_op (i := 7) (d := 15) (v := ?_) rfl rfl (by kernel_rfl) (by kernel_rfl) (by kernel_rfl) (fun _ _ _ h => h) (Or.inl ⟨by rfl, ?hy7u317⟩) hHeld ?rest7u317
          case hy7u317 =>
            intro w' hS'
            go_simp
            try with_reducible rfl
          simp only [List.setIfInBounds_toArray, List.set_cons_zero, List.set_cons_succ]
          refine take_op (i := 8) (d := 23) (v := ?_) rfl rfl (by kernel_rfl) (by kernel_rfl) (by kernel_rfl) (fun _ _ _ h => h) (Or.inl ⟨by rfl, ?hy8u318⟩) hHeld ?rest8u318
          case hy8u318 =>
            intro w' hS'
            go_simp
            try with_reducible rfl
          simp only [List.setIfInBounds_toArray, List.set_cons_zero, List.set_cons_succ]
          refine take_op (i := 9) (d := 24) (v := ?_) rfl rfl (by kernel_rfl) (by kernel_rfl) (by kernel_rfl) (fun _ _ _ h => h) (Or.inl ⟨by rfl, ?hy9u319⟩) hHeld ?rest9u319
          case hy9u319 =>
            intro w' hS'
            go_simp
            try with_reducible rfl
          simp only [List.setIfInBounds_toArray, List.set_cons_zero, List.set_cons_succ]
          refine take_op (i := 10) (d := 25) (v := ?_) rfl rfl (by kernel_rfl) (by kernel_rfl) (by kernel_rfl) (fun _ _ _ h => h) (Or.inl ⟨by rfl, ?hy10u320⟩) hHeld ?rest10u320
          case hy10u320 =>
            intro w' hS'
            go_simp
            try with_reducible rfl
          simp only [List.setIfInBounds_toArray, List.set_cons_zero, List.set_cons_succ]
          refine wpAnyH_ready (rs := [11]) (by kernel_rfl) (by simp) ?_
          refine AllReadyH.cons rfl (fun K hK => ?_) (AllReadyH.nil)
          go_simp
          obtain ⟨g, hq⟩ : ∃ g, g = Y3a.heap.size := ⟨_, rfl⟩
          rw [← hq]
          refine hK.out _ (Y3a.alloc (.cells (i16s zP) 30 (0, 0))) (hHeld.alloc hHeld.size _) (fun hHeld2 => ?_)
          have HB : Hid ((Y3a.alloc (.cells (i16s zP) 30 (0, 0))).heap[g]? = some (.cells (i16s zP) 30 (0, 0))) := Lib.hid (by rw [hq]; exact heap_alloc_new _ _)
          have hlg : W.heap.size ≤ g := by rw [hq]; exact hHeld.size
          clear hK K hHeld hq
          have hHeld := hHeld2
          clear hHeld2
          generalize (Y3a.alloc (.cells (i16s zP) 30 (0, 0))) = Y4a at *
          have hxp : xp.length = 24 := Hxp.out
          have hst := run_store_rowC (P := Tryz.prog) _ g 30 (i16s xp) _ HB.out (by rw [i16s_size, i16s_size, Hxp.out]; rfl) (i16s_one _)
          refine wpAnyH_ready (rs := [12]) (by kernel_rfl) (by simp) ?_
          refine AllReadyH.cons rfl (fun K hK => ?_) AllReadyH.nil
          go_simp
          refine hK.out _ _ (below_setRow hHeld hlg _) (fun hHeld2 => ?_)
          clear hK K hst hxp
          have HR := Lib.hid (setRow_heap _ _ _ (i16s xp) _ _ HB.out)
          clear hHeld HB
          have hHeld := hHeld2
          clear hHeld2
          refine take_op (i := 13) (d := 10) (v := ?_) rfl rfl (by kernel_rfl) (by kernel_rfl) (by kernel_rfl) (fun _ _ _ h => h) (Or.inl ⟨by rfl, ?hy13u321⟩) hHeld ?rest13u321
          case hy13u321 =>
            intro w' hS'
            go_simp
            try with_reducible rfl
          simp only [List.setIfInBounds_toArray, List.set_cons_zero, List.set_cons_succ]
          refine take_op (i := 14) (d := 11) (v := ?_) rfl rfl (by kernel_rfl) (by kernel_rfl) (by kernel_rfl) (fun _ _ _ h => h) (Or.inl ⟨by rfl, ?hy14u322⟩) hHeld ?rest14u322
          case hy14u322 =>
            intro w' hS'
            go_simp
            try with_reducible rfl
          simp only [List.setIfInBounds_toArray, List.set_cons_zero, List.set_cons_succ]
          refine wpAnyH_done (by kernel_rfl) ?_ _
          go_wp2
          go_meet
          case rel => exact ⟨g, rfl, rfl, rfl, hlg, HR.out, hHeld⟩
        · go_simp
          obtain ⟨g, hq⟩ : ∃ g, g = Y2a.heap.size := ⟨_, rfl⟩
          rw [← hq]
          refine hK.out _ (Y2a.alloc (.cells (i16s zP) 30 (0, 0))) (hHeld.alloc hHeld.size _) (fun hHeld2 => ?_)
          have HB : Hid ((Y2a.alloc (.cells (i16s zP) 30 (0, 0))).heap[g]? = some (.cells (i16s zP) 30 (0, 0))) := Lib.hid (by rw [hq]; exact heap_alloc_new _ _)
          have hlg : W.heap.size ≤ g := by rw [hq]; exact hHeld.size
          clear hK K hHeld hq
          have hHeld := hHeld2
          clear hHeld2
          generalize (Y2a.alloc (.cells (i16s zP) 30 (0, 0))) = Y5a at *
          refine wpAnyH_ready (rs := [6]) (by kernel_rfl) (by simp) ?_
          refine AllReadyH.cons rfl (fun K hK => ?_) (AllReadyH.nil)
          go_simp
          refine (HS.out _).mono ?_
          rintro e Y6a ⟨rfl, hb1⟩
          refine hK.out _ _ (hHeld.trans (hb1.mono hHeld.size)) (fun hHeld2 => ?_)
          clear hK K
          replace hHeld := hHeld2
          clear hHeld2
          replace HB := Lib.hid (below_row hb1 HB.out)
          clear hb1
          refine take_op (i := 7) (d := 15) (v := ?_) rfl rfl (by kernel_rfl) (by kernel_rfl) (by kernel_rfl) (fun _ _ _ h => h) (Or.inl ⟨by rfl, ?hy7u323⟩) hHeld ?rest7u323
          case hy7u323 =>
            intro w' hS'
            go_simp
            try with_reducible rfl
          simp only [List.setIfInBounds_toArray, List.set_cons_zero, List.set_cons_succ]
          refine take_op (i := 8) (d := 23) (v := ?_) rfl rfl (by kernel_rfl) (by kernel_rfl) (by kernel_rfl) (fun _ _ _ h => h) (Or.inl ⟨by rfl, ?hy8u324⟩) hHeld ?rest8u324
          case hy8u324 =>
            intro w' hS'
            go_simp
            try with_reducible rfl
          simp only [List.setIfInBounds_toArray, List.set_cons_zero, List.set_cons_succ]
          refine take_op (i := 9) (d := 24) (v := ?_) rfl rfl (by kernel_rfl) (by kernel_rfl) (by kernel_rfl) (fun _ _ _ h => h) (Or.inl ⟨by rfl, ?hy9u325⟩) hHeld ?rest9u325
          case hy9u325 =>
            intro w' hS'
            go_simp
            try with_reducible rfl
          simp only [List.setIfInBounds_toArray, List.set_cons_zero, List.set_cons_succ]
          refine take_op (i := 10) (d := 25) (v := ?_) rfl rfl (by kernel_rfl) (by kernel_rfl) (by kernel_rfl) (fun _ _ _ h => h) (Or.inl ⟨by rfl, ?hy10u326⟩) hHeld ?rest10u326
          case hy10u326 =>
            intro w' hS'
            go_simp
            try with_reducible rfl
          simp only [List.setIfInBounds_toArray, List.set_cons_zero, List.set_cons_succ]
          have hxp : xp.length = 24 := Hxp.out
          have hst := run_store_rowC (P := Tryz.prog) _ g 30 (i16s xp) _ HB.out (by rw [i16s_size, i16s_size, Hxp.out]; rfl) (i16s_one _)
          refine wpAnyH_ready (rs := [12]) (by kernel_rfl) (by simp) ?_
          refine AllReadyH.cons rfl (fun K hK => ?_) AllReadyH.nil
          go_simp
          refine hK.out _ _ (below_setRow hHeld hlg _) (fun hHeld2 => ?_)
          clear hK K hst hxp
          have HR := Lib.hid (setRow_heap _ _ _ (i16s xp) _ _ HB.out)
          clear hHeld HB
          have hHeld := hHeld2
          clear hHeld2
          refine take_op (i := 13) (d := 10) (v := ?_) rfl rfl (by kernel_rfl) (by kernel_rfl) (by kernel_rfl) (fun _ _ _ h => h) (Or.inl ⟨by rfl, ?hy13u327⟩) hHeld ?rest13u327
          case hy13u327 =>
            intro w' hS'
            go_simp
            try with_reducible rfl
          simp only [List.setIfInBounds_toArray, List.set_cons_zero, List.set_cons_succ]
          refine take_op (i := 14) (d := 11) (v := ?_) rfl rfl (by kernel_rfl) (by kernel_rfl) (by kernel_rfl) (fun _ _ _ h => h) (Or.inl ⟨by rfl, ?hy14u328⟩) hHeld ?rest14u328
          case hy14u328 =>
            intro w' hS'
            go_simp
            try with_reducible rfl
          simp only [List.setIfInBounds_toArray, List.set_cons_zero, List.set_cons_succ]
          refine wpAnyH_done (by kernel_rfl) ?_ _
          go_wp2
          go_meet
          case rel => exact ⟨g, rfl, rfl, rfl, hlg, HR.out, hHeld⟩
      · go_simp
        obtain ⟨g, hq⟩ : ∃ g, g = Y1a.heap.size := ⟨_, rfl⟩
        rw [← hq]
        refine hK.out _ (Y1a.alloc (.cells (i16s zP) 30 (0, 0))) (hHeld.alloc hHeld.size _) (fun hHeld2 => ?_)
        have HB : Hid ((Y1a.alloc (.cells (i16s zP) 30 (0, 0))).heap[g]? = some (.cells (i16s zP) 30 (0, 0))) := Lib.hid (by rw [hq]; exact heap_alloc_new _ _)
        have hlg : W.heap.size ≤ g := by rw [hq]; exact hHeld.size
        clear hK K hHeld hq
        have hHeld := hHeld2
        clear hHeld2
        generalize (Y1a.alloc (.cells (i16s zP) 30 (0, 0))) = Y7a at *
        refine wpAnyH_ready (rs := [3]) (by kernel_rfl) (by simp) ?_
        refine AllReadyH.cons rfl (fun K hK => ?_) (AllReadyH.nil)
        go_simp
        refine (toSun_any hs ts Hh.out Ht.out _).mono ?_
        rintro e Y8a ⟨rfl, hb1⟩
        refine hK.out _ _ (hHeld.trans (hb1.mono hHeld.size)) (fun hHeld2 => ?_)
        clear hK K
        replace hHeld := hHeld2
        clear hHeld2
        replace HB := Lib.hid (below_row hb1 HB.out)
        clear hb1
        refine wpAnyH_ready (rs := [6]) (by kernel_rfl) (by simp) ?_
        refine AllReadyH.cons rfl (fun K hK => ?_) (AllReadyH.nil)
        go_simp
        refine (HS.out _).mono ?_
        rintro e Y9a ⟨rfl, hb1⟩
        refine hK.out _ _ (hHeld.trans (hb1.mono hHeld.size)) (fun hHeld2 => ?_)
        clear hK K
        replace hHeld := hHeld2
        clear hHeld2
        replace HB := Lib.hid (below_row hb1 HB.out)
        clear hb1
        refine take_op (i := 7) (d := 15) (v := ?_) rfl rfl (by kernel_rfl) (by kernel_rfl) (by kernel_rfl) (fun _ _ _ h => h) (Or.inl ⟨by rfl, ?hy7u329⟩) hHeld ?rest7u329
        case hy7u329 =>
          intro w' hS'
          go_simp
          try with_reducible rfl
        simp only [List.setIfInBounds_toArray, List.set_cons_zero, List.set_cons_succ]
        refine take_op (i := 8) (d := 23) (v := ?_) rfl rfl (by kernel_rfl) (by kernel_rfl) (by kernel_rfl) (fun _ _ _ h => h) (Or.inl ⟨by rfl, ?hy8u330⟩) hHeld ?rest8u330
        case hy8u330 =>
          intro w' hS'
          go_simp
          try with_reducible rfl
        simp only [List.setIfInBounds_toArray, List.set_cons_zero, List.set_cons_succ]
        refine take_op (i := 9) (d := 24) (v := ?_) rfl rfl (by kernel_rfl) (by kernel_rfl) (by kernel_rfl) (fun _ _ _ h => h) (Or.inl ⟨by rfl, ?hy9u331⟩) hHeld ?rest9u331
        case hy9u331 =>
          intro w' hS'
          go_simp
          try with_reducible rfl
        simp only [List.setIfInBounds_toArray, List.set_cons_zero, List.set_cons_succ]
        refine take_op (i := 10) (d := 25) (v := ?_) rfl rfl (by kernel_rfl) (by kernel_rfl) (by kernel_rfl) (fun _ _ _ h => h) (Or.inl ⟨by rfl, ?hy10u332⟩) hHeld ?rest10u332
        case hy10u332 =>
          intro w' hS'
          go_simp
          try with_reducible rfl
        simp only [List.setIfInBounds_toArray, List.set_cons_zero, List.set_cons_succ]
        have hxp : xp.length = 24 := Hxp.out
        have hst := run_store_rowC (P := Tryz.prog) _ g 30 (i16s xp) _ HB.out (by rw [i16s_size, i16s_size, Hxp.out]; rfl) (i16s_one _)
        refine wpAnyH_ready (rs := [12]) (by kernel_rfl) (by simp) ?_
        refine AllReadyH.cons rfl (fun K hK => ?_) AllReadyH.nil
        go_simp
        refine hK.out _ _ (below_setRow hHeld hlg _) (fun hHeld2 => ?_)
        clear hK K hst hxp
        have HR := Lib.hid (setRow_heap _ _ _ (i16s xp) _ _ HB.out)
        clear hHeld HB
        have hHeld := hHeld2
        clear hHeld2
        refine take_op (i := 13) (d := 10) (v := ?_) rfl rfl (by kernel_rfl) (by kernel_rfl) (by kernel_rfl) (fun _ _ _ h => h) (Or.inl ⟨by rfl, ?hy13u333⟩) hHeld ?rest13u333
        case hy13u333 =>
          intro w' hS'
          go_simp
          try with_reducible rfl
        simp only [List.setIfInBounds_toArray, List.set_cons_zero, List.set_cons_succ]
        refine take_op (i := 14) (d := 11) (v := ?_) rfl rfl (by kernel_rfl) (by kernel_rfl) (by kernel_rfl) (fun _ _ _ h => h) (Or.inl ⟨by rfl, ?hy14u334⟩) hHeld ?rest14u334
        case hy14u334 =>
          intro w' hS'
          go_simp
          try with_reducible rfl
        simp only [List.setIfInBounds_toArray, List.set_cons_zero, List.set_cons_succ]
        refine wpAnyH_done (by kernel_rfl) ?_ _
        go_wp2
        go_meet
        case rel => exact ⟨g, rfl, rfl, rfl, hlg, HR.out, hHeld⟩
    · go_simp
      obtain ⟨g, hq⟩ : ∃ g, g = Y0.heap.size := ⟨_, rfl⟩
      rw [← hq]
      refine hK.out _ (Y0.alloc (.cells (i16s zP) 30 (0, 0))) (hHeld.alloc hHeld.size _) (fun hHeld2 => ?_)
      have HB : Hid ((Y0.alloc (.cells (i16s zP) 30 (0, 0))).heap[g]? = some (.cells (i16s zP) 30 (0, 0))) := Lib.hid (by rw [hq]; exact heap_alloc_new _ _)
      have hlg : W.heap.size ≤ g := by rw [hq]; exact hHeld.size
      clear hK K hHeld hq
      have hHeld := hHeld2
      clear hHeld2
      generalize (Y0.alloc (.cells (i16s zP) 30 (0, 0))) = Y10a at *
      refine wpAnyH_ready (rs := [1]) (by kernel_rfl) (by simp) ?_
      refine AllReadyH.cons rfl (fun K hK => ?_) (AllReadyH.nil)
      go_simp
      refine (toBlind_any _ _ _ _ _ _).mono ?_
      rintro e Y11a ⟨rfl, hb1⟩
      refine hK.out _ _ (hHeld.trans (hb1.mono hHeld.size)) (fun hHeld2 => ?_)
      clear hK K
      replace hHeld := hHeld2
      clear hHeld2
      replace HB := Lib.hid (below_row hb1 HB.out)
      clear hb1
      refine wpAnyH_ready (rs := [3]) (by kernel_rfl) (by simp) ?_
      refine AllReadyH.cons rfl (fun K hK => ?_) (AllReadyH.nil)
      go_simp
      refine (toSun_any hs ts Hh.out Ht.out _).mono ?_
      rintro e Y12a ⟨rfl, hb1⟩
      refine hK.out _ _ (hHeld.trans (hb1.mono hHeld.size)) (fun hHeld2 => ?_)
      clear hK K
      replace hHeld := hHeld2
      clear hHeld2
      replace HB := Lib.hid (below_row hb1 HB.out)
      clear hb1
      refine wpAnyH_ready (rs := [6]) (by kernel_rfl) (by simp) ?_
      refine AllReadyH.cons rfl (fun K hK => ?_) (AllReadyH.nil)
      go_simp
      refine (HS.out _).mono ?_
      rintro e Y13a ⟨rfl, hb1⟩
      refine hK.out _ _ (hHeld.trans (hb1.mono hHeld.size)) (fun hHeld2 => ?_)
      clear hK K
      replace hHeld := hHeld2
      clear hHeld2
      replace HB := Lib.hid (below_row hb1 HB.out)
      clear hb1
      refine take_op (i := 7) (d := 15) (v := ?_) rfl rfl (by kernel_rfl) (by kernel_rfl) (by kernel_rfl) (fun _ _ _ h => h) (Or.inl ⟨by rfl, ?hy7u335⟩) hHeld ?rest7u335
      case hy7u335 =>
        intro w' hS'
        go_simp
        try with_reducible rfl
      simp only [List.setIfInBounds_toArray, List.set_cons_zero, List.set_cons_succ]
      refine take_op (i := 8) (d := 23) (v := ?_) rfl rfl (by kernel_rfl) (by kernel_rfl) (by kernel_rfl) (fun _ _ _ h => h) (Or.inl ⟨by rfl, ?hy8u336⟩) hHeld ?rest8u336
      case hy8u336 =>
        intro w' hS'
        go_simp
        try with_reducible rfl
      simp only [List.setIfInBounds_toArray, List.set_cons_zero, List.set_cons_succ]
      refine take_op (i := 9) (d := 24) (v := ?_) rfl rfl (by kernel_rfl) (by kernel_rfl) (by kernel_rfl) (fun _ _ _ h => h) (Or.inl ⟨by rfl, ?hy9u337⟩) hHeld ?rest9u337
      case hy9u337 =>
        intro w' hS'
        go_simp
        try with_reducible rfl
      simp only [List.setIfInBounds_toArray, List.set_cons_zero, List.set_cons_succ]
      refine take_op (i := 10) (d := 25) (v := ?_) rfl rfl (by kernel_rfl) (by kernel_rfl) (by kernel_rfl) (fun _ _ _ h => h) (Or.inl ⟨by rfl, ?hy10u338⟩) hHeld ?rest10u338
      case hy10u338 =>
        intro w' hS'
        go_simp
        try with_reducible rfl
      simp only [List.setIfInBounds_toArray, List.set_cons_zero, List.set_cons_succ]
      have hxp : xp.length = 24 := Hxp.out
      have hst := run_store_rowC (P := Tryz.prog) _ g 30 (i16s xp) _ HB.out (by rw [i16s_size, i16s_size, Hxp.out]; rfl) (i16s_one _)
      refine wpAnyH_ready (rs := [12]) (by kernel_rfl) (by simp) ?_
      refine AllReadyH.cons rfl (fun K hK => ?_) AllReadyH.nil
      go_simp
      refine hK.out _ _ (below_setRow hHeld hlg _) (fun hHeld2 => ?_)
      clear hK K hst hxp
      have HR := Lib.hid (setRow_heap _ _ _ (i16s xp) _ _ HB.out)
      clear hHeld HB
      have hHeld := hHeld2
      clear hHeld2
      refine take_op (i := 13) (d := 10) (v := ?_) rfl rfl (by kernel_rfl) (by kernel_rfl) (by kernel_rfl) (fun _ _ _ h => h) (Or.inl ⟨by rfl, ?hy13u339⟩) hHeld ?rest13u339
      case hy13u339 =>
        intro w' hS'
        go_simp
        try with_reducible rfl
      simp only [List.setIfInBounds_toArray, List.set_cons_zero, List.set_cons_succ]
      refine take_op (i := 14) (d := 11) (v := ?_) rfl rfl (by kernel_rfl) (by kernel_rfl) (by kernel_rfl) (fun _ _ _ h => h) (Or.inl ⟨by rfl, ?hy14u340⟩) hHeld ?rest14u340
      case hy14u340 =>
        intro w' hS'
        go_simp
        try with_reducible rfl
      simp only [List.setIfInBounds_toArray, List.set_cons_zero, List.set_cons_succ]
      refine wpAnyH_done (by kernel_rfl) ?_ _
      go_wp2
      go_meet
      case rel => exact ⟨g, rfl, rfl, rfl, hlg, HR.out, hHeld⟩
  case rest =>
    obtain ⟨g1, rfl, rfl, rfl, hl1, hr1, hbx⟩ := hcut
    have G1 := Lib.hid hr1
    replace H0 := Lib.hid (below_row hbx H0.out)
    replace H1 := Lib.hid (below_row hbx H1.out)
    replace hb := hb.trans (hbx.mono hb.size)
    clear hr1 hbx hl1
    go_upto_region 2 with (fail)
    go_cut [12, 13, 14] (fun s sa sb wy => ∃ g : Nat, s = .pointer (some ⟨g, 0, none⟩) ∧ sa = .float .f32 v1 ∧ sb = .int .i64 v2 ∧ wc.heap.size ≤ g ∧ wy.heap[g]? = some (.cells (i16s xp) 30 (0, 0)) ∧ Below wc.heap.size wc wy)
    case first =>
      refine wp_region_held_drew (S := (fun V => Below wc.heap.size wc V)) (by kernel_rfl) (Below.refl _ _).drew (fun hHeld => ?_)
      generalize wc.drew = Y0 at *
      refine take_op (i := 0) (d := 27) (v := .agg (blindC n wd gp t sh)) rfl rfl (by kernel_rfl) (by kernel_rfl) (by kernel_rfl) (fun _ _ _ h => h) (yields_row (by rfl) 26 (.tmp 4) (by rfl) w.heap.size 0 5 (by rfl) 26 (blindC n wd gp t sh) (0, 0) _ (fun _ h => below_row h H0.out) Tryz.underlying26 rfl info_blindL (blind_fits _ _ _ _ _) (blindC n wd gp t sh) (blind_all _ _ _ _ _)) hHeld ?_
      simp only [List.setIfInBounds_toArray, List.set_cons_zero, List.set_cons_succ]
      refine take_op (i := 2) (d := 29) (v := .agg (sunC hs ts)) rfl rfl (by kernel_rfl) (by kernel_rfl) (by kernel_rfl) (fun _ _ _ h => h) (yields_row (by rfl) 29 (.tmp 5) (by rfl) b1 0 48 (by rfl) 29 (sunC hs ts) (0, 0) _ (fun _ h => below_row h H1.out) Tryz.underlying29 rfl info_sunL (sun_fits _ _ Hh.out Ht.out) (sunC hs ts) (sun_all _ _ Hh.out Ht.out)) hHeld ?_
      simp only [List.setIfInBounds_toArray, List.set_cons_zero, List.set_cons_succ]
      refine take_op (i := 4) (d := 31) (v := ?_) rfl rfl (by kernel_rfl) (by kernel_rfl) (by kernel_rfl) (fun _ _ _ h => h) (Or.inl ⟨by rfl, ?hy4u341⟩) hHeld ?rest4u341
      case hy4u341 =>
        intro w' hS'
        go_simp
        try with_reducible rfl
      simp only [List.setIfInBounds_toArray, List.set_cons_zero, List.set_cons_succ]
      refine take_op (i := 5) (d := 32) (v := ?_) rfl rfl (by kernel_rfl) (by kernel_rfl) (by kernel_rfl) (fun _ _ _ h => h) (Or.inl ⟨by rfl, ?hy5u342⟩) hHeld ?rest5u342
      case hy5u342 =>
        intro w' hS'
        go_simp
        try with_reducible rfl
      simp only [List.setIfInBounds_toArray, List.set_cons_zero, List.set_cons_succ]
      refine wpAnyH_ready (rs := [1, 11]) (by kernel_rfl) (by simp) ?_
      refine AllReadyH.cons rfl (fun K hK => ?_) (AllReadyH.cons rfl (fun K hK => ?_) (AllReadyH.nil))
      · go_simp
        refine (toBlind_any _ _ _ _ _ _).mono ?_
        rintro e Y1b ⟨rfl, hb1⟩
        refine hK.out _ _ (hHeld.trans (hb1.mono hHeld.size)) (fun hHeld2 => ?_)
        clear hK K
        replace hHeld := hHeld2
        clear hHeld2
        clear hb1
        refine wpAnyH_ready (rs := [3, 11]) (by kernel_rfl) (by simp) ?_
        refine AllReadyH.cons rfl (fun K hK => ?_) (AllReadyH.cons rfl (fun K hK => ?_) (AllReadyH.nil))
        · go_simp
          refine (toSun_any hs ts Hh.out Ht.out _).mono ?_
          rintro e Y2b ⟨rfl, hb1⟩
          refine hK.out _ _ (hHeld.trans (hb1.mono hHeld.size)) (fun hHeld2 => ?_)
          clear hK K
          replace hHeld := hHeld2
          clear hHeld2
          clear hb1
          refine wpAnyH_ready (rs := [6, 11]) (by kernel_rfl) (by simp) ?_
          refine AllReadyH.cons rfl (fun K hK => ?_) (AllReadyH.cons rfl (fun K hK => ?_) (AllReadyH.nil))
          · go_simp
            refine (HI.out _ (errT_below HX.out (hb.trans (hHeld.mono hb.size)))).mono ?_
            rintro e Y3b ⟨rfl, hb1⟩
            refine hK.out _ _ (hHeld.trans (hb1.mono hHeld.size)) (fun hHeld2 => ?_)
            clear hK K
            replace hHeld := hHeld2
            clear hHeld2
            clear hb1
            refine take_op (i := 7) (d := 26) (v := ?_) rfl rfl (by kernel_rfl) (by kernel_rfl) (by kernel_rfl) (fun _ _ _ h => h) (Or.inl ⟨by rfl, ?hy7u343⟩) hHeld ?rest7u343
            case hy7u343 =>
              intro w' hS'
              go_simp
              try with_reducible rfl
            simp only [List.setIfInBounds_toArray, List.set_cons_zero, List.set_cons_succ]
            refine take_op (i := 8) (d := 34) (v := ?_) rfl rfl (by kernel_rfl) (by kernel_rfl) (by kernel_rfl) (fun _ _ _ h => h) (Or.inl ⟨by rfl, ?hy8u344⟩) hHeld ?rest8u344
            case hy8u344 =>
              intro w' hS'
              go_simp
              try with_reducible rfl
            simp only [List.setIfInBounds_toArray, List.set_cons_zero, List.set_cons_succ]
            refine take_op (i := 9) (d := 35) (v := ?_) rfl rfl (by kernel_rfl) (by kernel_rfl) (by kernel_rfl) (fun _ _ _ h => h) (Or.inl ⟨by rfl, ?hy9u345⟩) hHeld ?rest9u345
            case hy9u345 =>
              intro w' hS'
              go_simp
              try with_reducible rfl
            simp only [List.setIfInBounds_toArray, List.set_cons_zero, List.set_cons_succ]
            refine take_op (i := 10) (d := 36) (v := ?_) rfl rfl (by kernel_rfl) (by kernel_rfl) (by kernel_rfl) (fun _ _ _ h => h) (Or.inl ⟨by rfl, ?hy10u346⟩) hHeld ?rest10u346
            case hy10u346 =>
              intro w' hS'
              go_simp
              try with_reducible rfl
            simp only [List.setIfInBounds_toArray, List.set_cons_zero, List.set_cons_succ]
            refine wpAnyH_ready (rs := [11]) (by kernel_rfl) (by simp) ?_
            refine AllReadyH.cons rfl (fun K hK => ?_) (AllReadyH.nil)
            go_simp
            obtain ⟨g, hq⟩ : ∃ g, g = Y3b.heap.size := ⟨_, rfl⟩
            rw [← hq]
            refine hK.out _ (Y3b.alloc (.cells (i16s zP) 30 (0, 0))) (hHeld.alloc hHeld.size _) (fun hHeld2 => ?_)
            have HB : Hid ((Y3b.alloc (.cells (i16s zP) 30 (0, 0))).heap[g]? = some (.cells (i16s zP) 30 (0, 0))) := Lib.hid (by rw [hq]; exact heap_alloc_new _ _)
            have hlg : wc.heap.size ≤ g := by rw [hq]; exact hHeld.size
            clear hK K hHeld hq
            have hHeld := hHeld2
            clear hHeld2
            generalize (Y3b.alloc (.cells (i16s zP) 30 (0, 0))) = Y4b at *
            have hxp : xp.length = 24 := Hxp.out
            have hst := run_store_rowC (P := Tryz.prog) _ g 30 (i16s xp) _ HB.out (by rw [i16s_size, i16s_size, Hxp.out]; rfl) (i16s_one _)
            refine wpAnyH_ready (rs := [12]) (by kernel_rfl) (by simp) ?_
            refine AllReadyH.cons rfl (fun K hK => ?_) AllReadyH.nil
            go_simp
            refine hK.out _ _ (below_setRow hHeld hlg _) (fun hHeld2 => ?_)
            clear hK K hst hxp
            have HR := Lib.hid (setRow_heap _ _ _ (i16s xp) _ _ HB.out)
            clear hHeld HB
            have hHeld := hHeld2
            clear hHeld2
            refine take_op (i := 13) (d := 13) (v := ?_) rfl rfl (by kernel_rfl) (by kernel_rfl) (by kernel_rfl) (fun _ _ _ h => h) (Or.inl ⟨by rfl, ?hy13u347⟩) hHeld ?rest13u347
            case hy13u347 =>
              intro w' hS'
              go_simp
              try with_reducible rfl
            simp only [List.setIfInBounds_toArray, List.set_cons_zero, List.set_cons_succ]
            refine take_op (i := 14) (d := 14) (v := ?_) rfl rfl (by kernel_rfl) (by kernel_rfl) (by kernel_rfl) (fun _ _ _ h => h) (Or.inl ⟨by rfl, ?hy14u348⟩) hHeld ?rest14u348
            case hy14u348 =>
              intro w' hS'
              go_simp
              try with_reducible rfl
            simp only [List.setIfInBounds_toArray, List.set_cons_zero, List.set_cons_succ]
            refine wpAnyH_done (by kernel_rfl) ?_ _
            go_wp2
            go_meet
            case rel => exact ⟨g, rfl, rfl, rfl, hlg, HR.out, hHeld⟩
          · go_simp
            obtain ⟨g, hq⟩ : ∃ g, g = Y2b.heap.size := ⟨_, rfl⟩
            rw [← hq]
            refine hK.out _ (Y2b.alloc (.cells (i16s zP) 30 (0, 0))) (hHeld.alloc hHeld.size _) (fun hHeld2 => ?_)
            have HB : Hid ((Y2b.alloc (.cells (i16s zP) 30 (0, 0))).heap[g]? = some (.cells (i16s zP) 30 (0, 0))) := Lib.hid (by rw [hq]; exact heap_alloc_new _ _)
            have hlg : wc.heap.size ≤ g := by rw [hq]; exact hHeld.size
            clear hK K hHeld hq
            have hHeld := hHeld2
            clear hHeld2
            generalize (Y2b.alloc (.cells (i16s zP) 30 (0, 0))) = Y5b at *
            refine wpAnyH_ready (rs := [6]) (by kernel_rfl) (by simp) ?_
            refine AllReadyH.cons rfl (fun K hK => ?_) (AllReadyH.nil)
            go_simp
            refine (HI.out _ (errT_below HX.out (hb.trans (hHeld.mono hb.size)))).mono ?_
            rintro e Y6b ⟨rfl, hb1⟩
            refine hK.out _ _ (hHeld.trans (hb1.mono hHeld.size)) (fun hHeld2 => ?_)
            clear hK K
            replace hHeld := hHeld2
            clear hHeld2
            replace HB := Lib.hid (below_row hb1 HB.out)
            clear hb1
            refine take_op (i := 7) (d := 26) (v := ?_) rfl rfl (by kernel_rfl) (by kernel_rfl) (by kernel_rfl) (fun _ _ _ h => h) (Or.inl ⟨by rfl, ?hy7u349⟩) hHeld ?rest7u349
            case hy7u349 =>
              intro w' hS'
              go_simp
              try with_reducible rfl
            simp only [List.setIfInBounds_toArray, List.set_cons_zero, List.set_cons_succ]
            refine take_op (i := 8) (d := 34) (v := ?_) rfl rfl (by kernel_rfl) (by kernel_rfl) (by kernel_rfl) (fun _ _ _ h => h) (Or.inl ⟨by rfl, ?hy8u350⟩) hHeld ?rest8u350
            case hy8u350 =>
              intro w' hS'
              go_simp
              try with_reducible rfl
            simp only [List.setIfInBounds_toArray, List.set_cons_zero, List.set_cons_succ]
            refine take_op (i := 9) (d := 35) (v := ?_) rfl rfl (by kernel_rfl) (by kernel_rfl) (by kernel_rfl) (fun _ _ _ h => h) (Or.inl ⟨by rfl, ?hy9u351⟩) hHeld ?rest9u351
            case hy9u351 =>
              intro w' hS'
              go_simp
              try with_reducible rfl
            simp only [List.setIfInBounds_toArray, List.set_cons_zero, List.set_cons_succ]
            refine take_op (i := 10) (d := 36) (v := ?_) rfl rfl (by kernel_rfl) (by kernel_rfl) (by kernel_rfl) (fun _ _ _ h => h) (Or.inl ⟨by rfl, ?hy10u352⟩) hHeld ?rest10u352
            case hy10u352 =>
              intro w' hS'
              go_simp
              try with_reducible rfl
            simp only [List.setIfInBounds_toArray, List.set_cons_zero, List.set_cons_succ]
            have hxp : xp.length = 24 := Hxp.out
            have hst := run_store_rowC (P := Tryz.prog) _ g 30 (i16s xp) _ HB.out (by rw [i16s_size, i16s_size, Hxp.out]; rfl) (i16s_one _)
            refine wpAnyH_ready (rs := [12]) (by kernel_rfl) (by simp) ?_
            refine AllReadyH.cons rfl (fun K hK => ?_) AllReadyH.nil
            go_simp
            refine hK.out _ _ (below_setRow hHeld hlg _) (fun hHeld2 => ?_)
            clear hK K hst hxp
            have HR := Lib.hid (setRow_heap _ _ _ (i16s xp) _ _ HB.out)
            clear hHeld HB
            have hHeld := hHeld2
            clear hHeld2
            refine take_op (i := 13) (d := 13) (v := ?_) rfl rfl (by kernel_rfl) (by kernel_rfl) (by kernel_rfl) (fun _ _ _ h => h) (Or.inl ⟨by rfl, ?hy13u353⟩) hHeld ?rest13u353
            case hy13u353 =>
              intro w' hS'
              go_simp
              try with_reducible rfl
            simp only [List.setIfInBounds_toArray, List.set_cons_zero, List.set_cons_succ]
            refine take_op (i := 14) (d := 14) (v := ?_) rfl rfl (by kernel_rfl) (by kernel_rfl) (by kernel_rfl) (fun _ _ _ h => h) (Or.inl ⟨by rfl, ?hy14u354⟩) hHeld ?rest14u354
            case hy14u354 =>
              intro w' hS'
              go_simp
              try with_reducible rfl
            simp only [List.setIfInBounds_toArray, List.set_cons_zero, List.set_cons_succ]
            refine wpAnyH_done (by kernel_rfl) ?_ _
            go_wp2
            go_meet
            case rel => exact ⟨g, rfl, rfl, rfl, hlg, HR.out, hHeld⟩
        · go_simp
          obtain ⟨g, hq⟩ : ∃ g, g = Y1b.heap.size := ⟨_, rfl⟩
          rw [← hq]
          refine hK.out _ (Y1b.alloc (.cells (i16s zP) 30 (0, 0))) (hHeld.alloc hHeld.size _) (fun hHeld2 => ?_)
          have HB : Hid ((Y1b.alloc (.cells (i16s zP) 30 (0, 0))).heap[g]? = some (.cells (i16s zP) 30 (0, 0))) := Lib.hid (by rw [hq]; exact heap_alloc_new _ _)
          have hlg : wc.heap.size ≤ g := by rw [hq]; exact hHeld.size
          clear hK K hHeld hq
          have hHeld := hHeld2
          clear hHeld2
          generalize (Y1b.alloc (.cells (i16s zP) 30 (0, 0))) = Y7b at *
          refine wpAnyH_ready (rs := [3]) (by kernel_rfl) (by simp) ?_
          refine AllReadyH.cons rfl (fun K hK => ?_) (AllReadyH.nil)
          go_simp
          refine (toSun_any hs ts Hh.out Ht.out _).mono ?_
          rintro e Y8b ⟨rfl, hb1⟩
          refine hK.out _ _ (hHeld.trans (hb1.mono hHeld.size)) (fun hHeld2 => ?_)
          clear hK K
          replace hHeld := hHeld2
          clear hHeld2
          replace HB := Lib.hid (below_row hb1 HB.out)
          clear hb1
          refine wpAnyH_ready (rs := [6]) (by kernel_rfl) (by simp) ?_
          refine AllReadyH.cons rfl (fun K hK => ?_) (AllReadyH.nil)
          go_simp
          refine (HI.out _ (errT_below HX.out (hb.trans (hHeld.mono hb.size)))).mono ?_
          rintro e Y9b ⟨rfl, hb1⟩
          refine hK.out _ _ (hHeld.trans (hb1.mono hHeld.size)) (fun hHeld2 => ?_)
          clear hK K
          replace hHeld := hHeld2
          clear hHeld2
          replace HB := Lib.hid (below_row hb1 HB.out)
          clear hb1
          refine take_op (i := 7) (d := 26) (v := ?_) rfl rfl (by kernel_rfl) (by kernel_rfl) (by kernel_rfl) (fun _ _ _ h => h) (Or.inl ⟨by rfl, ?hy7u355⟩) hHeld ?rest7u355
          case hy7u355 =>
            intro w' hS'
            go_simp
            try with_reducible rfl
          simp only [List.setIfInBounds_toArray, List.set_cons_zero, List.set_cons_succ]
          refine take_op (i := 8) (d := 34) (v := ?_) rfl rfl (by kernel_rfl) (by kernel_rfl) (by kernel_rfl) (fun _ _ _ h => h) (Or.inl ⟨by rfl, ?hy8u356⟩) hHeld ?rest8u356
          case hy8u356 =>
            intro w' hS'
            go_simp
            try with_reducible rfl
          simp only [List.setIfInBounds_toArray, List.set_cons_zero, List.set_cons_succ]
          refine take_op (i := 9) (d := 35) (v := ?_) rfl rfl (by kernel_rfl) (by kernel_rfl) (by kernel_rfl) (fun _ _ _ h => h) (Or.inl ⟨by rfl, ?hy9u357⟩) hHeld ?rest9u357
          case hy9u357 =>
            intro w' hS'
            go_simp
            try with_reducible rfl
          simp only [List.setIfInBounds_toArray, List.set_cons_zero, List.set_cons_succ]
          refine take_op (i := 10) (d := 36) (v := ?_) rfl rfl (by kernel_rfl) (by kernel_rfl) (by kernel_rfl) (fun _ _ _ h => h) (Or.inl ⟨by rfl, ?hy10u358⟩) hHeld ?rest10u358
          case hy10u358 =>
            intro w' hS'
            go_simp
            try with_reducible rfl
          simp only [List.setIfInBounds_toArray, List.set_cons_zero, List.set_cons_succ]
          have hxp : xp.length = 24 := Hxp.out
          have hst := run_store_rowC (P := Tryz.prog) _ g 30 (i16s xp) _ HB.out (by rw [i16s_size, i16s_size, Hxp.out]; rfl) (i16s_one _)
          refine wpAnyH_ready (rs := [12]) (by kernel_rfl) (by simp) ?_
          refine AllReadyH.cons rfl (fun K hK => ?_) AllReadyH.nil
          go_simp
          refine hK.out _ _ (below_setRow hHeld hlg _) (fun hHeld2 => ?_)
          clear hK K hst hxp
          have HR := Lib.hid (setRow_heap _ _ _ (i16s xp) _ _ HB.out)
          clear hHeld HB
          have hHeld := hHeld2
          clear hHeld2
          refine take_op (i := 13) (d := 13) (v := ?_) rfl rfl (by kernel_rfl) (by kernel_rfl) (by kernel_rfl) (fun _ _ _ h => h) (Or.inl ⟨by rfl, ?hy13u359⟩) hHeld ?rest13u359
          case hy13u359 =>
            intro w' hS'
            go_simp
            try with_reducible rfl
          simp only [List.setIfInBounds_toArray, List.set_cons_zero, List.set_cons_succ]
          refine take_op (i := 14) (d := 14) (v := ?_) rfl rfl (by kernel_rfl) (by kernel_rfl) (by kernel_rfl) (fun _ _ _ h => h) (Or.inl ⟨by rfl, ?hy14u360⟩) hHeld ?rest14u360
          case hy14u360 =>
            intro w' hS'
            go_simp
            try with_reducible rfl
          simp only [List.setIfInBounds_toArray, List.set_cons_zero, List.set_cons_succ]
          refine wpAnyH_done (by kernel_rfl) ?_ _
          go_wp2
          go_meet
          case rel => exact ⟨g, rfl, rfl, rfl, hlg, HR.out, hHeld⟩
      · go_simp
        obtain ⟨g, hq⟩ : ∃ g, g = Y0.heap.size := ⟨_, rfl⟩
        rw [← hq]
        refine hK.out _ (Y0.alloc (.cells (i16s zP) 30 (0, 0))) (hHeld.alloc hHeld.size _) (fun hHeld2 => ?_)
        have HB : Hid ((Y0.alloc (.cells (i16s zP) 30 (0, 0))).heap[g]? = some (.cells (i16s zP) 30 (0, 0))) := Lib.hid (by rw [hq]; exact heap_alloc_new _ _)
        have hlg : wc.heap.size ≤ g := by rw [hq]; exact hHeld.size
        clear hK K hHeld hq
        have hHeld := hHeld2
        clear hHeld2
        generalize (Y0.alloc (.cells (i16s zP) 30 (0, 0))) = Y10b at *
        refine wpAnyH_ready (rs := [1]) (by kernel_rfl) (by simp) ?_
        refine AllReadyH.cons rfl (fun K hK => ?_) (AllReadyH.nil)
        go_simp
        refine (toBlind_any _ _ _ _ _ _).mono ?_
        rintro e Y11b ⟨rfl, hb1⟩
        refine hK.out _ _ (hHeld.trans (hb1.mono hHeld.size)) (fun hHeld2 => ?_)
        clear hK K
        replace hHeld := hHeld2
        clear hHeld2
        replace HB := Lib.hid (below_row hb1 HB.out)
        clear hb1
        refine wpAnyH_ready (rs := [3]) (by kernel_rfl) (by simp) ?_
        refine AllReadyH.cons rfl (fun K hK => ?_) (AllReadyH.nil)
        go_simp
        refine (toSun_any hs ts Hh.out Ht.out _).mono ?_
        rintro e Y12b ⟨rfl, hb1⟩
        refine hK.out _ _ (hHeld.trans (hb1.mono hHeld.size)) (fun hHeld2 => ?_)
        clear hK K
        replace hHeld := hHeld2
        clear hHeld2
        replace HB := Lib.hid (below_row hb1 HB.out)
        clear hb1
        refine wpAnyH_ready (rs := [6]) (by kernel_rfl) (by simp) ?_
        refine AllReadyH.cons rfl (fun K hK => ?_) (AllReadyH.nil)
        go_simp
        refine (HI.out _ (errT_below HX.out (hb.trans (hHeld.mono hb.size)))).mono ?_
        rintro e Y13b ⟨rfl, hb1⟩
        refine hK.out _ _ (hHeld.trans (hb1.mono hHeld.size)) (fun hHeld2 => ?_)
        clear hK K
        replace hHeld := hHeld2
        clear hHeld2
        replace HB := Lib.hid (below_row hb1 HB.out)
        clear hb1
        refine take_op (i := 7) (d := 26) (v := ?_) rfl rfl (by kernel_rfl) (by kernel_rfl) (by kernel_rfl) (fun _ _ _ h => h) (Or.inl ⟨by rfl, ?hy7u361⟩) hHeld ?rest7u361
        case hy7u361 =>
          intro w' hS'
          go_simp
          try with_reducible rfl
        simp only [List.setIfInBounds_toArray, List.set_cons_zero, List.set_cons_succ]
        refine take_op (i := 8) (d := 34) (v := ?_) rfl rfl (by kernel_rfl) (by kernel_rfl) (by kernel_rfl) (fun _ _ _ h => h) (Or.inl ⟨by rfl, ?hy8u362⟩) hHeld ?rest8u362
        case hy8u362 =>
          intro w' hS'
          go_simp
          try with_reducible rfl
        simp only [List.setIfInBounds_toArray, List.set_cons_zero, List.set_cons_succ]
        refine take_op (i := 9) (d := 35) (v := ?_) rfl rfl (by kernel_rfl) (by kernel_rfl) (by kernel_rfl) (fun _ _ _ h => h) (Or.inl ⟨by rfl, ?hy9u363⟩) hHeld ?rest9u363
        case hy9u363 =>
          intro w' hS'
          go_simp
          try with_reducible rfl
        simp only [List.setIfInBounds_toArray, List.set_cons_zero, List.set_cons_succ]
        refine take_op (i := 10) (d := 36) (v := ?_) rfl rfl (by kernel_rfl) (by kernel_rfl) (by kernel_rfl) (fun _ _ _ h => h) (Or.inl ⟨by rfl, ?hy10u364⟩) hHeld ?rest10u364
        case hy10u364 =>
          intro w' hS'
          go_simp
          try with_reducible rfl
        simp only [List.setIfInBounds_toArray, List.set_cons_zero, List.set_cons_succ]
        have hxp : xp.length = 24 := Hxp.out
        have hst := run_store_rowC (P := Tryz.prog) _ g 30 (i16s xp) _ HB.out (by rw [i16s_size, i16s_size, Hxp.out]; rfl) (i16s_one _)
        refine wpAnyH_ready (rs := [12]) (by kernel_rfl) (by simp) ?_
        refine AllReadyH.cons rfl (fun K hK => ?_) AllReadyH.nil
        go_simp
        refine hK.out _ _ (below_setRow hHeld hlg _) (fun hHeld2 => ?_)
        clear hK K hst hxp
        have HR := Lib.hid (setRow_heap _ _ _ (i16s xp) _ _ HB.out)
        clear hHeld HB
        have hHeld := hHeld2
        clear hHeld2
        refine take_op (i := 13) (d := 13) (v := ?_) rfl rfl (by kernel_rfl) (by kernel_rfl) (by kernel_rfl) (fun _ _ _ h => h) (Or.inl ⟨by rfl, ?hy13u365⟩) hHeld ?rest13u365
        case hy13u365 =>
          intro w' hS'
          go_simp
          try with_reducible rfl
        simp only [List.setIfInBounds_toArray, List.set_cons_zero, List.set_cons_succ]
        refine take_op (i := 14) (d := 14) (v := ?_) rfl rfl (by kernel_rfl) (by kernel_rfl) (by kernel_rfl) (fun _ _ _ h => h) (Or.inl ⟨by rfl, ?hy14u366⟩) hHeld ?rest14u366
        case hy14u366 =>
          intro w' hS'
          go_simp
          try with_reducible rfl
        simp only [List.setIfInBounds_toArray, List.set_cons_zero, List.set_cons_succ]
        refine wpAnyH_done (by kernel_rfl) ?_ _
        go_wp2
        go_meet
        case rel => exact ⟨g, rfl, rfl, rfl, hlg, HR.out, hHeld⟩
    case rest =>
      obtain ⟨g2, rfl, rfl, rfl, hl2, hr2, hbx⟩ := hcut
      have G2 := Lib.hid hr2
      replace G1 := Lib.hid (below_row hbx G1.out)
      replace hb := hb.trans (hbx.mono hb.size)
      clear hr2 hbx hl2 H0 H1
      go_wp2_with (first | (refine wpList_load_part rfl 30 _ rfl g1 0 24 rfl 30 (i16s xp) (0, 0) _ G1.out Tryz.underlying30 rfl info_plan (by rw [i16s_size, Hxp.out]; decide) (i16s xp) (i16s_all _ 24 Hxp.out) ?_) | (refine wpList_load_part rfl 30 _ rfl g2 0 24 rfl 30 (i16s xp) (0, 0) _ G2.out Tryz.underlying30 rfl info_plan (by rw [i16s_size, Hxp.out]; decide) (i16s xp) (i16s_all _ 24 Hxp.out) ?_) | (go_at_call 9; refine (eqPlan_same xp Hxp.out _).mono ?_; rintro e W9 ⟨rfl, hb1⟩; replace hb := hb.trans (hb1.mono hb.size); clear hb1) | (go_at_call 12; refine (same_wide _ Hv1.out _).mono ?_; rintro e w1 ⟨rfl, rfl⟩))
      go_ret
      exact ⟨rfl, hb⟩

end Go.Proofs.YtmniodfdoidffaaGreatDoor
