/-
  EtB, EtC, EtD, EtH, LtA, LtB, RwE, Law, LawC, RxF, RxA.
-/
import Derived.Test.YtdccmdcgbembpaaDoorMf1
import Derived.Maps.AppendAt
import Derived.OwnWalk
import Derived.Test.YtdccmdcgbembpaaDoorRoomV
import Derived.Test.YtdccmdcgbembpaaDoorRoomS
import Derived.Test.YtdccmdcgbembpaaDoorLightS
import Derived.Great.BuildSlice
import Derived.Test.YtdccmdcgbembpaaDoorSameN
import Derived.Test.YtdccmdcgbembpaaDoorRows
import Derived.WalkKit
import Derived.ProofKit
import Derived.OpenShut
import Derived.ChangeVars
import Derived.JoinedOf
import Derived.LaidLaws
import Derived.Stop.Joined
import Derived.OpenVars
import Derived.Test.YtdccmdcgbembpaaDoorRoomE
import Derived.Test.YtdccmdcgbembpaaDoorRoomK
import Derived.Test.YtdccmdcgbembpaaDoorMul
import Derived.Test.YtdccmdcgbembpaaDoorLit

namespace Go.Proofs.YtdccmdcgbembpaaDoor
open Go.RowKit Go.Shelf

attribute [local go_sem] Oper.semAt_some

theorem heap_keptWE {W W' : World} {row : Option Nat} {b : Nat} {cs : Array Value} {t : TypeId} {fr : Nat × Nat} (h : W.heap[b]? = some (.cells cs t fr)) (hg : W.grownBy W' row)
    (hr : ∀ r, row = some r → ∃ o : Obj, W.heap[r]? = some o ∧ o.isCells = false) : W'.heap[b]? = some (.cells cs t fr) := by
  have hlt := (Array.getElem?_eq_some_iff.1 h).1
  rw [← h]
  refine hg.block b hlt fun e => ?_
  obtain ⟨o, ho, hc⟩ := hr b e.symm
  rw [h] at ho
  cases ho
  cases hc

theorem keeps_of_belowWE {W W1 : World} (hb : Below W.heap.size W W1) : KeepsOthers W W1 := ⟨hb.size, fun b _ ho _ => (hb.block b (Array.getElem?_eq_some_iff.1 ho).1).trans ho⟩

theorem laid_allwE (cs vs : Array Value) (h : cs.size = vs.size) : laid cs vs 0 = vs := by
  apply Array.ext'
  simp [laid]
  rw [← h]; simp

theorem grown_of_belowE {w w' : World} (h : Below w.heap.size w w') (row : Option Nat) : w.grownBy w' row := ⟨h.os, h.tape, h.output, h.size, fun k hk _ => h.block k hk⟩

theorem run_store_floatE (P : Program) (w : World) (a : Addr) (k : FloatKind) (b : Nat) (m : Mode) : (store a (.float k b) m).run P w = stored P w a (.float k b) m := run_store P w a _ m rfl

attribute [local go_sem] run_store_floatE

def mpC (xs : List Nat) : Array Value := (xs.map (Value.float .f32)).toArray

theorem mpC_size (xs : List Nat) : (mpC xs).size = xs.length := by simp [mpC]

theorem mpC_set (xs : List Nat) (k : Nat) (n : Nat) : (mpC xs).setIfInBounds k (.float .f32 n) = mpC (xs.set k n) := by
  apply Array.ext'
  simp [mpC, List.map_set]

theorem mpC_cell {V : World} {g : Nat} {xs : List Nat} {t : TypeId} {fr : Nat × Nat} (hg : V.heap[g]? = some (.cells (mpC xs) t fr)) (k : Nat) (h : k < xs.length) : V.cell? ⟨g, k, none⟩ = some (.float .f32 (xs[k]?.getD 0)) := by
  rw [cell_of_row V _ _ _ _ _ hg]
  simp [mpC, h]

theorem mpC_all (xs : List Nat) (n : Nat) (h : xs.length = n) : (mpC xs).extract 0 (0 + n) = mpC xs := by
  rw [Nat.zero_add, ← h, ← mpC_size, Array.extract_size]

theorem mpC_one (xs : List Nat) : ∀ v ∈ mpC xs, v.oneCell' = true := by
  intro v hv
  simp only [mpC, List.mem_toArray, List.mem_map] at hv
  obtain ⟨x, _, rfl⟩ := hv
  rfl

theorem info_lm : (Tryd.prog.info? 94).map (·.size) = some 100 := by kernel_rfl

theorem info_aa : (Tryd.prog.info? 93).map (·.size) = some 100 := by kernel_rfl

def zM : List Nat := List.replicate 100 0

theorem zM_len : zM.length = 100 := by simp [zM]

/-- The map of a room, as far as its tiles have been looked at. -/
def mpK (g : Int × Int → Nat) (W H k : Nat) : List Nat := (List.range 100).map (fun i => if i % 10 < W ∧ i / 10 < H ∧ i / 10 * W + i % 10 < k then g (((i % 10 : Nat) : Int), ((i / 10 : Nat) : Int)) else 0)

theorem mpK_len (g : Int × Int → Nat) (W H k : Nat) : (mpK g W H k).length = 100 := by simp [mpK]

theorem mpK_zero (g : Int × Int → Nat) (W H : Nat) : mpK g W H 0 = zM := by
  apply List.ext_getElem
  · simp [mpK, zM]
  · intro i h1 h2
    simp only [mpK, zM, List.getElem_map, List.getElem_range, List.getElem_replicate]
    rw [if_neg (fun h => Nat.not_lt_zero _ h.2.2)]

theorem mpK_step (g : Int × Int → Nat) (W H : Nat) (hW : 0 < W) (hW1 : W ≤ 10) {x y : Nat} (hx : x < W) (hy : y < H) : (mpK g W H (y * W + x)).set (y * 10 + x) (g ((x : Int), (y : Int))) = mpK g W H (y * W + x + 1) := by
  apply List.ext_getElem
  · simp [mpK]
  · intro i h1 h2
    have hi : i < 100 := by simpa [mpK] using h2
    rw [List.getElem_set]
    simp only [mpK, List.getElem_map, List.getElem_range]
    by_cases e : y * 10 + x = i
    · subst e
      have e1 : (y * 10 + x) % 10 = x := by omega
      have e2 : (y * 10 + x) / 10 = y := by omega
      rw [if_pos rfl, e1, e2, if_pos ⟨hx, hy, by omega⟩]
    · rw [if_neg e]
      by_cases hc : i % 10 < W ∧ i / 10 < H
      · have hne : i / 10 * W + i % 10 ≠ y * W + x := by
          intro h
          have a1 : (i / 10 * W + i % 10) % W = i % 10 := by rw [Nat.mul_comm, Nat.mul_add_mod]; exact Nat.mod_eq_of_lt hc.1
          have a2 : (y * W + x) % W = x := by rw [Nat.mul_comm, Nat.mul_add_mod]; exact Nat.mod_eq_of_lt hx
          have a3 : (i / 10 * W + i % 10) / W = i / 10 := by rw [Nat.mul_comm, Nat.mul_add_div hW, Nat.div_eq_of_lt hc.1, Nat.add_zero]
          have a4 : (y * W + x) / W = y := by rw [Nat.mul_comm, Nat.mul_add_div hW, Nat.div_eq_of_lt hx, Nat.add_zero]
          rw [h] at a1 a3
          omega
        by_cases hk : i / 10 * W + i % 10 < y * W + x
        · rw [if_pos ⟨hc.1, hc.2, hk⟩, if_pos ⟨hc.1, hc.2, by omega⟩]
        · rw [if_neg (fun h => hk h.2.2), if_neg (fun h => by have := h.2.2; omega)]
      · rw [if_neg (fun h => hc ⟨h.1, h.2.1⟩), if_neg (fun h => hc ⟨h.1, h.2.1⟩)]

def GoodT (W H : Nat) (hW : 0 < W) (hH : 0 < H) (pre : List (Tt W H)) : Prop := pre = tks W H hW hH pre.length

theorem goodT_snoc {W H : Nat} {hW : 0 < W} {hH : 0 < H} {pre : List (Tt W H)} {x : Tt W H} (h : GoodT W H hW hH (pre ++ [x])) : GoodT W H hW hH pre ∧ x = tk W H hW hH pre.length := by
  unfold GoodT at h
  rw [List.length_append, List.length_singleton, tks_succ] at h
  have := List.append_inj h (by simp)
  exact ⟨this.1, by simpa using this.2⟩

theorem goodT_all (W H : Nat) (hW : 0 < W) (hH : 0 < H) (k : Nat) : GoodT W H hW hH (tks W H hW hH k) := by
  unfold GoodT
  rw [tks_length]

/-- What the k-th tile is. -/
theorem tk_split (W H : Nat) (hW : 0 < W) (hH : 0 < H) {k : Nat} (hk : k < W * H) : ∃ x y : Nat, x < W ∧ y < H ∧ k = y * W + x ∧ (tk W H hW hH k).1 = ((x : Int), (y : Int)) := by
  refine ⟨k % W, k / W, Nat.mod_lt k hW, Nat.div_lt_of_lt_mul hk, ?_, ?_⟩
  · rw [Nat.mul_comm]; exact (Nat.div_add_mod k W).symm
  · have := tk_at W H hW hH (Nat.mod_lt k hW) (Nat.div_lt_of_lt_mul hk)
    rw [Nat.mul_comm (k / W) W, Nat.div_add_mod] at this
    exact this

def MpI (W H : Nat) (hW : 0 < W) (hH : 0 < H) (g : Int × Int → Nat) (w : World) (sv : Value) (b1 b2 gb : Nat) (pre : List (Tt W H)) (V : World) : Prop :=
  ∃ xs : List Nat, xs.length = 100 ∧ V.heap[w.heap.size]? = some (.cells (roomC (W : Int) (H : Int) sv) 34 (0, 0)) ∧ V.heap[b1]? = some (.cells (mpC zM) 94 (0, 0)) ∧ V.heap[b2]? = some (.cells (mpC xs) 94 (0, 0)) ∧ V.heap[gb]? = some (.cells (roomC (W : Int) (H : Int) sv) 34 (0, 0)) ∧ (GoodT W H hW hH pre → xs = mpK g W H pre.length) ∧ Below w.heap.size w V

theorem mpI_own (W H : Nat) (hW : 0 < W) (hH : 0 < H) (g : Int × Int → Nat) (w : World) (sv : Value) (b1 b2 gb : Nat) (B : Nat) (hB : w.heap.size ≤ B) : OwnFrom B (MpI W H hW hH g w sv b1 b2 gb) := by
  intro s V V' row ⟨xs, hx, h0, h1, h2, h3, hg, hb⟩ hg' hr
  have hr2 := fun r e => (hr r e).2
  exact ⟨xs, hx, heap_keptWE h0 hg' hr2, heap_keptWE h1 hg' hr2, heap_keptWE h2 hg' hr2, heap_keptWE h3 hg' hr2, hg, ownFrom_below (β := Unit) (Nat.le_refl _) hB () V V' row hb hg' hr⟩

set_option maxRecDepth 100000 in
set_option maxHeartbeats 8000000 in
theorem mapOf_any (W H : Nat) (hW : 0 < W) (hH : 0 < H) (sv : Value) (ws : List Wn) (ok : RmOk (W : Int) (H : Int) ws) (hwf : ∀ x ∈ ws, WnWf x) (g : Int × Int → Nat) (hg : g = fun t => litW (W : Int) (H : Int) t (fun _ => true) ws) (w : World) (hws : WinsAt w sv ws) :
    Calls Tryd.prog 51 #[.agg (roomC (W : Int) (H : Int) sv)] w fun e w' => e = .returned (.agg (mpC (mpK g W H (W * H)))) ∧ Below w.heap.size w w' := by
  refine (callsIn_wide (n := 4)).1 ?_
  have hW1 : W ≤ 10 := by have := ok.w1; omega
  have hH1 : H ≤ 10 := by have := ok.h1; omega
  have HLT : Hid (∀ (a1 a2 : Int), inRoom (W : Int) (H : Int) (a1, a2) → ∀ V, WinsAt V sv ws → Calls Tryd.prog 105 #[.agg (roomC (W : Int) (H : Int) sv), .agg (tileC a1 a2)] V fun e V' => e = .returned (.float .f32 (g (a1, a2))) ∧ Below V.heap.size V V') := by
    rw [hg]
    exact fun a1 a2 ha V hV => lightAt_any (W : Int) (H : Int) sv ws ok hwf a1 a2 ha V hV
  have HWS := Lib.hid hws
  clear ok hwf hg hws
  refine callsIn_of_wp_marks Tryd.func51 rfl trivial ?_ rfl
  simp only [Tryd.ntmps51, List.size_toArray, List.length_cons, List.length_nil, Nat.reduceAdd, Nat.reduceSub, Array.replicate_succ, Array.replicate_zero, List.push_toArray, List.append_toArray, List.nil_append, List.cons_append]
  refine wpIn_wide.2 ?_
  go_upto_region 2 with (fail)
  refine abs_world (fun V => V.heap[w.heap.size]? = some (.cells (roomC (W : Int) (H : Int) sv) 34 (0, 0)) ∧ V.heap[w.heap.size + 1]? = some (.cells (mpC zM) 94 (0, 0)) ∧ V.heap[w.heap.size + 1 + 1]? = some (.cells (mpC zM) 94 (0, 0)) ∧ Below w.heap.size w V) ⟨(three_new _ _ _ _).1, (three_new _ _ _ _).2.1, (three_new _ _ _ _).2.2.1, (three_new _ _ _ _).2.2.2⟩ ?_
  rintro W0 ⟨r0, r1, r2, hb⟩
  have hl2 := row_lt r2
  have n01 : w.heap.size < w.heap.size + 1 := by omega
  have n12 : w.heap.size + 1 < w.heap.size + 1 + 1 := by omega
  generalize w.heap.size + 1 + 1 = b2 at *
  generalize w.heap.size + 1 = b1 at *
  have hle : w.heap.size ≤ W0.heap.size := hb.size
  have H0 := Lib.hid r0
  have R1 := Lib.hid r1
  have R2 := Lib.hid r2
  have HB := Lib.hid hb
  clear r0 r1 r2 hb
  go_wp2_with (first | (refine wpList_load_part rfl 34 _ rfl w.heap.size 0 3 rfl 34 (roomC (W : Int) (H : Int) sv) (0, 0) _ H0.out Tryd.underlying34 rfl info_room (room_fits _ _ _) _ (room_all _ _ _) ?_) | (go_at_call 53; refine (eachTile_any _ _ _ _).mono ?_; rintro e w' ⟨rfl, rfl⟩))
  refine (wpIn_wide (n := 4)).1 ?_
  refine wpIn_rangeFunc_ownH rfl (by decide) (gf := 107) (lb := #[.pointer (some ⟨W0.heap.size, 0, none⟩)]) rfl trivial (enters_of Tryd.func107 (by kernel_rfl) rfl)
    (eachTile_stops W H hW hH hW1 hH1 sv W0.heap.size _ (heap_alloc_new _ _)) keepsAt_t (keepsAt_b (by simp)) (Below.refl _ _) (fun _ => rfl)
    (MpI W H hW hH g w sv b1 b2 W0.heap.size) (fun _ _ _ => False) (mpI_own W H hW hH g w sv b1 b2 _ _ (by simp; omega)) (fun _ _ _ _ _ hs _ _ => hs) ?h0
    (fun x a' V => ∃ b4 : Nat, W0.heap.size < b4 ∧ a' = { tmps := #[.agg (roomC (W : Int) (H : Int) sv), .pointer (some ⟨w.heap.size, 0, none⟩), .pointer (some ⟨b1, 0, none⟩), .pointer (some ⟨b2, 0, none⟩), .pointer (some ⟨b4, 0, none⟩), .agg (roomC (W : Int) (H : Int) sv), .func (.func 107) #[] #[.pointer (some ⟨W0.heap.size, 0, none⟩)], .agg (tileC x.1.1 x.1.2), undef, undef, undef, undef, undef, undef, undef, undef, undef, undef], defers := [] } ∧ V.heap[b4]? = some (.cells (tileC x.1.1 x.1.2) 28 (0, 0)))
    (fun x a' s V V' row hx hg hr => by obtain ⟨b4, l4, e, h⟩ := hx; exact ⟨b4, l4, e, heap_keptWE h hg (fun r e => (hr r e).2)⟩) ?assign ?body ?done ?stop
  case h0 =>
    exact ⟨zM, zM_len, below_row ((Below.refl W0.heap.size _).alloc (Nat.le_refl _) _) H0.out, below_row ((Below.refl W0.heap.size _).alloc (Nat.le_refl _) _) R1.out, below_row ((Below.refl W0.heap.size _).alloc (Nat.le_refl _) _) R2.out, heap_alloc_new _ _, fun _ => (mpK_zero g W H).symm, HB.out.alloc hle _⟩
  case assign =>
    rintro l pre x W2 K hI hK
    have hgl : W0.heap.size < W2.heap.size := by obtain ⟨_, _, _, _, _, h3, _⟩ := hI; exact row_lt h3
    refine region_plain_round (by rfl) (fun ⟨_, _, h⟩ => h) ?_
    go_wp2_with (refine wpList_store_part rfl 28 _ _ rfl _ 0 (tileC x.1.1 x.1.2) rfl rfl 28 _ (heap_alloc_new _ _) info_tile (Nat.le_refl _) (tile_one _ _) ?_; rw [laid_allwE _ _ (by rfl)])
    have hbn : ∀ o, Below W2.heap.size W2 ((W2.alloc o).setRow W2.heap.size (tileC x.1.1 x.1.2)) := fun o => below_setRow ((Below.refl _ _).alloc (Nat.le_refl _) _) (Nat.le_refl _) _
    exact hK _ _ ((keeps_of_belowWE (hbn _)).from _) (fun _ ho => below_row (hbn _) ho) (mpI_own W H hW hH g w sv b1 b2 _ _ (Nat.le_refl _) _ _ _ none hI (grown_of_belowE (hbn _) none) (fun r e => by cases e)) ⟨_, hgl, rfl, setRow_heap _ _ _ _ _ _ (heap_alloc_new _ _)⟩
  case body =>
    clear H0 R1 R2 HB
    rintro l pre ⟨⟨a1, a2⟩, ha⟩ a' V hl0 hlr ⟨xs, hx, h0, h1, h2, h3, hgd, hbw⟩ ⟨b4, hl4, rfl, h4⟩ hl
    have ha2 := ha
    obtain ⟨p0, p1, p2, p3⟩ := ha2
    dsimp only at p0 p1 p2 p3
    obtain ⟨x, rfl⟩ := Int.eq_ofNat_of_zero_le p0
    obtain ⟨y, rfl⟩ := Int.eq_ofNat_of_zero_le p2
    have hxl : x < W := by omega
    have hyl : y < H := by omega
    have HLA := Lib.hid (HLT.out (x : Int) (y : Int) ha)
    have HM : Hid (GoodT W H hW hH (pre ++ [⟨((x : Int), (y : Int)), ha⟩]) → xs.set (y * 10 + x) (g ((x : Int), (y : Int))) = mpK g W H (pre ++ [(⟨((x : Int), (y : Int)), ha⟩ : Tt W H)]).length) := Lib.hid (fun hgs => by
      obtain ⟨hgp, hxk⟩ := goodT_snoc hgs
      obtain ⟨x', y', hx', hy', hk', htk⟩ := tk_split W H hW hH hl
      have e : ((x : Int), (y : Int)) = ((x' : Int), (y' : Int)) := by rw [← htk, ← hxk]
      have e1 : x = x' := by have := congrArg Prod.fst e; simp at this; omega
      have e2 : y = y' := by have := congrArg Prod.snd e; simp at this; omega
      subst e1 e2
      rw [List.length_append, List.length_singleton, hgd hgp, hk']
      exact mpK_step g W H hW hW1 hxl hyl)
    have H0 := Lib.hid h0
    have H1 := Lib.hid h1
    have H2 := Lib.hid h2
    have H3 := Lib.hid h3
    have H4 := Lib.hid h4
    have HBW := Lib.hid hbw
    have HX := Lib.hid hx
    have HWV := Lib.hid (wins_below HWS.out hbw)
    have z1 : (x : Int) < 10 := by omega
    have z2 : (0 : Int) ≤ (x : Int) := by omega
    have z3 : (y : Int) < 10 := by omega
    have z4 : (0 : Int) ≤ (y : Int) := by omega
    clear hgd h0 h1 h2 h3 h4 hbw hx HLT p0 p1 p2 p3
    dsimp only
    refine wpIn_block ?_
    refine region_round (S := (fun X => X.heap[w.heap.size]? = some (.cells (roomC (W : Int) (H : Int) sv) 34 (0, 0)) ∧ X.heap[b4]? = some (.cells (tileC (x : Int) (y : Int)) 28 (0, 0)) ∧ WinsAt X sv ws)) arrU (no_defer (by rfl)) (fun ⟨_, _, h⟩ => h) ⟨H0.out, H4.out, wins_below HWV.out (Below.drew (Below.refl _ _))⟩ (fun hHeld => ?_)
    refine take_op (i := 0) (d := 8) (v := ?_) rfl rfl (by kernel_rfl) (by kernel_rfl) (by kernel_rfl) (fun _ _ _ h => h) (Or.inl ⟨by rfl, ?hy0e1⟩) hHeld ?rest0e1
    case hy0e1 =>
      intro w' hS'
      go_simp
      try with_reducible rfl
    simp only [List.setIfInBounds_toArray, List.set_cons_zero, List.set_cons_succ]
    refine take_op (i := 1) (d := 9) (v := ?_) rfl rfl (by kernel_rfl) (by kernel_rfl) (by kernel_rfl) (fun _ _ _ h => h) (Or.inl ⟨by rfl, ?hy1e2⟩) hHeld ?rest1e2
    case hy1e2 =>
      intro w' hS'
      have q : w'.cell? ⟨b4, 1, none⟩ = some (.int .i8 (y : Int)) := by rw [cell_of_row _ _ _ _ _ _ hS'.2.1]; rfl
      go_simp
      try with_reducible rfl
    simp only [List.setIfInBounds_toArray, List.set_cons_zero, List.set_cons_succ]
    refine take_op (i := 2) (d := 10) (v := ?_) rfl rfl (by kernel_rfl) (by kernel_rfl) (by kernel_rfl) (fun _ _ _ h => h) (Or.inl ⟨by rfl, ?hy2e3⟩) hHeld ?rest2e3
    case hy2e3 =>
      intro w' hS'
      go_simp
      try with_reducible rfl
    simp only [List.setIfInBounds_toArray, List.set_cons_zero, List.set_cons_succ]
    refine take_op (i := 3) (d := 11) (v := ?_) rfl rfl (by kernel_rfl) (by kernel_rfl) (by kernel_rfl) (fun _ _ _ h => h) (Or.inl ⟨by rfl, ?hy3e4⟩) hHeld ?rest3e4
    case hy3e4 =>
      intro w' hS'
      have q : w'.cell? ⟨b4, 0, none⟩ = some (.int .i8 (x : Int)) := by rw [cell_of_row _ _ _ _ _ _ hS'.2.1]; rfl
      go_simp
      try with_reducible rfl
    simp only [List.setIfInBounds_toArray, List.set_cons_zero, List.set_cons_succ]
    refine take_op (i := 4) (d := 12) (v := .agg (roomC (W : Int) (H : Int) sv)) rfl rfl (by kernel_rfl) (by kernel_rfl) (by kernel_rfl) (fun _ _ _ h => h) (yields_row (by rfl) 34 (.tmp 1) (by rfl) w.heap.size 0 3 (by rfl) 34 (roomC (W : Int) (H : Int) sv) (0, 0) _ (fun _ h => h.1) Tryd.underlying34 rfl info_room (room_fits _ _ _) (roomC (W : Int) (H : Int) sv) (room_all _ _ _)) hHeld ?_
    simp only [List.setIfInBounds_toArray, List.set_cons_zero, List.set_cons_succ]
    refine take_op (i := 5) (d := 13) (v := .agg (tileC (x : Int) (y : Int))) rfl rfl (by kernel_rfl) (by kernel_rfl) (by kernel_rfl) (fun _ _ _ h => h) (yields_row (by rfl) 28 (.tmp 4) (by rfl) b4 0 2 (by rfl) 28 (tileC (x : Int) (y : Int)) (0, 0) _ (fun _ h => h.2.1) Tryd.underlying28 rfl info_tile (tile_fits _ _) (tileC (x : Int) (y : Int)) (tile_all _ _)) hHeld ?_
    simp only [List.setIfInBounds_toArray, List.set_cons_zero, List.set_cons_succ]
    refine take_op (i := 7) (d := 15) (v := ?_) rfl rfl (by kernel_rfl) (by kernel_rfl) (by kernel_rfl) (fun _ _ _ h => h) (Or.inl ⟨by rfl, ?hy7e5⟩) hHeld ?rest7e5
    case hy7e5 =>
      intro w' hS'
      go_simp
      try with_reducible rfl
    simp only [List.setIfInBounds_toArray, List.set_cons_zero, List.set_cons_succ]
    have HVD : Hid (Below V.heap.size V V.drew) := Lib.hid (Below.refl V.heap.size V).drew
    refine wpAnyH_ready (rs := [6]) (by kernel_rfl) (by simp) ?_
    refine AllReadyH.cons rfl (fun K hK => ?_) AllReadyH.nil
    go_simp
    refine (HLA.out _ hHeld.2.2).mono ?_
    rintro e W1 ⟨rfl, hb1⟩
    refine hK.out _ _ ⟨below_row hb1 hHeld.1, below_row hb1 hHeld.2.1, wins_below hHeld.2.2 hb1⟩ (fun hHeld2 => ?_)
    clear hK K
    replace hHeld := hHeld2
    clear hHeld2
    have HB1 : Hid (Below V.heap.size V W1) := HVD.out.trans hb1
    clear hb1
    refine take_op (i := 8) (d := 16) (v := ?_) rfl rfl (by kernel_rfl) (by kernel_rfl) (by kernel_rfl) (fun _ _ _ h => h) (Or.inl ⟨by rfl, ?hy8e6⟩) hHeld ?rest8e6
    case hy8e6 =>
      intro w' hS'
      go_simp
      try with_reducible rfl
    simp only [List.setIfInBounds_toArray, List.set_cons_zero, List.set_cons_succ]
    have h2 := below_row HB1.out H2.out
    have c2 := mpC_cell h2 (y * 10 + x) (by rw [HX.out]; omega)
    have f2 := frozen_of_row W1 b2 (y * 10 + x) _ _ h2
    have H2B := Lib.hid h2
    clear h2
    have hwn : w.heap.size < b2 := by omega
    have hb24 : b2 < b4 := by omega
    refine wpAnyH_ready (rs := [9]) (by kernel_rfl) (by simp) ?_
    refine AllReadyH.cons rfl (fun K hK => ?_) AllReadyH.nil
    go_simp
    have hwW := HBW.out.size
    have hbn : Below w.heap.size w (W1.setCell ⟨b2, y * 10 + x, none⟩ (.float .f32 (g ((x : Int), (y : Int))))) := (HBW.out.trans (HB1.out.mono hwW)).setCell (p := ⟨b2, y * 10 + x, none⟩) (by simp; omega) _
    have hwins := wins_below HWS.out hbn
    refine hK.out _ _ ⟨(heap_setCell_other _ _ _ _ (by simp; omega)).trans hHeld.1, (heap_setCell_other _ _ _ _ (by simp; omega)).trans hHeld.2.1, hwins⟩ (fun hHeld2 => ?_)
    clear hK K
    refine wpAnyH_done (by kernel_rfl) ?_ _
    clear hHeld2 hwins
    gi_wp2
    exact ⟨((keeps_of_belowWE HB1.out).trans (KeepsOthers.setCell _ _ _)).from _, fun o ho => (heap_setCell_other _ _ _ _ (by simp; omega)).trans (below_row HB1.out ho), xs.set (y * 10 + x) (g ((x : Int), (y : Int))), by rw [List.length_set]; exact HX.out, (heap_setCell_other _ _ _ _ (by simp; omega)).trans (below_row HB1.out H0.out), (heap_setCell_other _ _ _ _ (by simp; omega)).trans (below_row HB1.out H1.out), by rw [heap_setCell_same _ _ _ _ _ _ H2B.out, mpC_set], (heap_setCell_other _ _ _ _ (by simp; omega)).trans (below_row HB1.out H3.out), HM.out, hbn⟩
  case done =>
    clear H0 R1 R2 HB HLT HWS
    rintro D zs V hD rfl ⟨xs, hx, h0, h1, h2, h3, hgd, hb⟩ hK
    rename_i K hcont
    have hD' : w.heap.size ≤ D := by first | omega | (simp at hD; omega)
    have hDb : D ≠ b1 := by first | omega | (simp at hD; omega)
    have hM := hgd (goodT_all W H hW hH (W * H))
    rw [tks_length] at hM
    subst hM
    have H1 := Lib.hid h1
    have H2 := Lib.hid h2
    have HK := Lib.hid hK
    have LM := Lib.hid (mpK_len g W H (W * H))
    clear hgd h0 h1 h2 h3 hD hK hx
    refine hcont _ _ ?_
    have hle1 : w.heap.size ≤ b1 := by omega
    go_wp2_with (first | (refine wpList_load_part rfl 94 _ rfl b2 0 100 rfl 94 (mpC (mpK g W H (W * H))) (0, 0) _ H2.out Tryd.underlying94 rfl info_lm (by rw [mpC_size, LM.out]; decide) (mpC (mpK g W H (W * H))) (mpC_all _ 100 LM.out) ?_) | (refine wpList_store_part rfl 94 _ _ rfl b1 0 (mpC (mpK g W H (W * H))) rfl rfl 94 _ H1.out (by rw [mpC_size, LM.out]; exact info_lm) (by rw [mpC_size, mpC_size, LM.out, zM_len]; decide) (mpC_one _) ?_; rw [laid_allwE _ _ (by rw [mpC_size, mpC_size, LM.out, zM_len])]))
    have hK2 : (V.setRow b1 (mpC (mpK g W H (W * H)))).heap[D]? = some (.deferred (some [])) := (setRow_other _ _ _ _ hDb).trans HK.out
    have hR := setRow_heap V b1 _ (mpC (mpK g W H (W * H))) _ _ H1.out
    refine ⟨by simp, .inl ⟨_, _, rfl, run_takeDeferred hK2, ?_⟩⟩
    refine ⟨.agg (mpC (mpK g W H (W * H))), results_cell_row (fn := Tryd.f51) rfl _ _ _ _ _ _ _ rfl ((World.putObj_heap_other (Ne.symm hDb)).trans hR) Tryd.underlying94 rfl (by rw [mpC_size, LM.out]; exact info_lm), rfl, ?_⟩
    exact (below_setRow hb hle1 _).trans (belowK_b (w := w) (Nat.le_refl _) _ D _ _ hD' hK2 rfl rfl)
  case stop =>
    rintro D c pre V _ _ h _
    exact h.elim

end Go.Proofs.YtdccmdcgbembpaaDoor

namespace Go.Proofs.YtdccmdcgbembpaaDoor
open Go.RowKit Go.Shelf

attribute [local go_sem] Oper.semAt_some

/-- The cells of the first tiles of a room that is W wide. -/
def tC (W k : Nat) : List Value := (List.range k).flatMap (fun i => [.int .i8 ((i % W : Nat) : Int), .int .i8 ((i / W : Nat) : Int)])

theorem tC_succ (W : Nat) (hW : 0 < W) {x y : Nat} (hx : x < W) : tC W (y * W + x + 1) = tC W (y * W + x) ++ [.int .i8 (x : Int), .int .i8 (y : Int)] := by
  have e1 : (y * W + x) % W = x := by rw [Nat.mul_comm, Nat.mul_add_mod]; exact Nat.mod_eq_of_lt hx
  have e2 : (y * W + x) / W = y := by rw [Nat.mul_comm, Nat.mul_add_div hW, Nat.div_eq_of_lt hx, Nat.add_zero]
  unfold tC
  rw [List.range_succ, List.flatMap_append, List.flatMap_cons, List.flatMap_nil, List.append_nil, e1, e2]

theorem infoTE : (Tryd.prog.info? 28).map (fun i => (i.zero, i.size, i.bytes)) = some (some (.agg #[.int .i8 0, .int .i8 0]), 2, 2) := by kernel_rfl

theorem owns_bE {W w1 : World} {base s k : Nat} {e : TypeId} {v : Value} {xs : List Value} (h : W.ownsRow base e s v k xs) (hb : Below W.heap.size W w1) : w1.ownsRow base e s v k xs :=
  h.kept (row := none) ⟨hb.os, hb.tape, hb.output, hb.size, fun k hk _ => hb.block k hk⟩ (by cases v.ownBlock <;> simp)

theorem cells_newE (w : World) (cs : Array Value) (t : TypeId) : ∀ j u, cs.toList[j]? = some u → (w.alloc (.cells cs t)).cell? ((⟨w.heap.size, 0, none⟩ : Addr).add j) = some u := by
  intro j u hj
  have e : (⟨w.heap.size, 0, none⟩ : Addr).add j = ⟨w.heap.size, j, none⟩ := by simp [Addr.add]; exact fun h => h.symm
  rw [e, cell_of_row _ _ _ _ _ _ (heap_alloc_new _ _)]
  simpa using hj

set_option maxRecDepth 100000 in
set_option maxHeartbeats 4000000 in
theorem l03Tiles_any (W H : Nat) (hW : 0 < W) (hW1 : W ≤ 10) (hH1 : H ≤ 10) (sv : Value) (gb : Nat) (w : World) (hg : w.heap[gb]? = some (.cells (roomC (W : Int) (H : Int) sv) 34 (0, 0))) :
    Calls Tryd.prog 45 #[.pointer (some ⟨gb, 0, none⟩)] w fun e w' => (∃ v, e = .returned v ∧ w'.ownsRow w.heap.size 28 2 v (W * H) (tC W (W * H))) ∧ Below w.heap.size w w' := by
  obtain ⟨i0, hi, hz0, hz1, hz2⟩ := info_parts infoTE
  have HBI : Hid (∀ x y : Int, Tryd.prog.built 28 [(0, .int .i8 x), (1, .int .i8 y)] = some (tileC x y)) := Lib.hid (fun x y => by kernel_rfl)
  have hbi := HBI.out
  have HG := Lib.hid hg
  have hgl := row_lt hg
  clear hg
  go_enter Tryd.func45, Tryd.ntmps45
  go_wp2
  have hrow0 : (w.alloc (.cells #[] 28)).ownsRow w.heap.size 28 2 (.slice (some ⟨w.heap.size, 0, none⟩) 0 0) 0 [] := World.ownsRow_made _ _ _ (Nat.le_refl _) (Nat.zero_le _) rfl
  go_loopw [3, 4] (fun o i wr => ∃ y : Nat, y ≤ H ∧ i = .int .i8 (y : Int) ∧ wr.ownsRow w.heap.size 28 2 o (y * W) (tC W (y * W)) ∧ Below w.heap.size w wr) (fun _ i _ => (H : Nat) - (intOf i).toNat)
  case atStart => exact ⟨0, Nat.zero_le _, rfl, by rw [Nat.zero_mul]; exact hrow0, (Below.refl _ _).alloc (Nat.le_refl _) _⟩
  case round =>
    clear hrow0
    obtain ⟨y, hy, rfl, hrow, hb⟩ := hrel
    have HR := Lib.hid hrow
    have c1 := room_cell1 (below_row hb HG.out)
    have c0 := room_cell0 (below_row hb HG.out)
    clear hrow
    by_cases hlt : y < H
    · have z1 : (y : Int) < (H : Int) := by omega
      go_wp2
      go_loopw [3, 5] (fun o i wq => ∃ x : Nat, x ≤ W ∧ i = .int .i8 (x : Int) ∧ wq.ownsRow w.heap.size 28 2 o (y * W + x) (tC W (y * W + x)) ∧ Below w.heap.size w wq) (fun _ i _ => (W : Nat) - (intOf i).toNat)
      case atStart => exact ⟨0, Nat.zero_le _, rfl, HR.out, hb⟩
      case round =>
        clear c0 c1 HR hb
        obtain ⟨x, hx, rfl, hrow, hb⟩ := hrel
        have c0 := room_cell0 (below_row hb HG.out)
        by_cases hlx : x < W
        · have y1 : (x : Int) < (W : Int) := by omega
          have hn : y * W + x < 100 := by
            have h2 : y * W ≤ 9 * 10 := Nat.mul_le_mul (by omega) hW1
            omega
          have hw1 := i8_small ((x : Int) + 1) (by omega) (by omega)
          have hsz := hb.size
          have HN := Lib.hid (tC_succ W hW (y := y) hlx)
          go_wp2_with (at_builtin; refine wpList_append_own _ rfl _ _ 83 rfl w.heap.size 28 i0 (.agg #[.int .i8 0, .int .i8 0]) 2 2 Tryd.underlying83 hi hz0 hz1 hz2 rfl (by decide) _ _ _ rfl (hrow.alloc _) ⟨_, 0, none⟩ 1 1 [.int .i8 (x : Int), .int .i8 (y : Int)] rfl rfl (cells_newE _ #[.int .i8 (x : Int), .int .i8 (y : Int)] _) (by intro u hu; simp at hu; rcases hu with rfl | rfl <;> rfl) (by unfold maxLen; omega) (by omega) (by simp; omega) ?_; intro v' w1 hown' hgrow _)
          go_roundw
          case rel => exact ⟨x + 1, by omega, by first | (simp; done) | (simp; omega), by rw [← Nat.add_assoc, HN.out]; exact hown', (hb.alloc hsz _).grown hgrow (by simp; omega) (fun j e => (hrow.lt j e).1)⟩
          case measure => simp [intOf]; omega
        · obtain rfl : x = W := by omega
          have hw1 := i8_small ((y : Int) + 1) (by omega) (by omega)
          go_wp2
          go_roundw
          case rel => exact ⟨y + 1, by omega, by first | (simp; done) | (simp; omega), by rw [Nat.add_mul, Nat.one_mul]; exact hrow, hb⟩
          case measure => simp [intOf]; omega
    · obtain rfl : y = H := by omega
      go_wp2
      go_ret
      exact ⟨⟨_, rfl, by rw [Nat.mul_comm W y]; exact HR.out⟩, hb⟩

end Go.Proofs.YtdccmdcgbembpaaDoor

namespace Go.Proofs.YtdccmdcgbembpaaDoor
open Go.ChangeShapes Go.WideShapes Go.ChangeAt Go.RowKit Go.Deep Go.Joins

attribute [local go_sem] run_store_floatE

theorem results_map {fn : Func} {p u : Tmp} (h : fn.results = #[.cell p 93, .tmp u]) (tmps : Array Value) (w : World) (g : Nat) (xs : List Nat) (hx : xs.length = 100) (hp : tmps.getD p undef = .pointer (some ⟨g, 0, none⟩)) (hg : w.heap[g]? = some (.cells (mpC xs) 93 (0, 0))) :
    (results fn tmps).run Tryd.prog w = .ok (.tuple #[.agg (mpC xs), tmps.getD u undef]) w := by
  have e := run_loadVar_row w g 93 93 (mpC xs) (0, 0) _ hg Tryd.underlying93 rfl (by rw [mpC_size, hx]; exact info_aa)
  have e0 : (results fn tmps).run Tryd.prog w =
      ((asAddr (tmps.getD p undef)).run Tryd.prog w).andThen fun a w₁ => ((loadVar 93 a).run Tryd.prog w₁).andThen fun x w₂ => .ok (.tuple #[x, tmps.getD u undef]) w₂ := by
    simp only [results, h]
    simp [Sem.run_bind, Result.andThen]
  rw [e0, hp]
  simp only [asAddr, Sem.run_pure, Result.andThen_ok, e]

theorem zbelE (V : World) (o : Obj) (cs : Array Value) : Below V.heap.size V ((V.alloc o).setRow V.heap.size cs) := below_setRow ((Below.refl _ _).alloc (Nat.le_refl _) _) (Nat.le_refl _) _

end Go.Proofs.YtdccmdcgbembpaaDoor

namespace Go.Proofs.YtdccmdcgbembpaaDoor
open Go.RowKit Go.Shelf

attribute [local go_sem] Oper.semAt_some run_store_floatE

def sumM (g : Nat → Nat) (k : Nat) : Nat := (List.range k).foldl (fun s i => fadd s (g i)) 0

theorem sumM_succ (g : Nat → Nat) (k : Nat) : sumM g (k + 1) = fadd (sumM g k) (g k) := by simp [sumM, List.range_succ]

def capM (k : Nat) : Nat := floatOfInt .f32 ((12 * k : Nat) : Int)

theorem capM_dec : ∀ k : Nat, k < 101 → capM k < 2139095040 ∧ fadd (capM k) (floatOfInt .f32 (12 : Int)) = capM (k + 1) := by decide +kernel

theorem cap12 : floatOfInt .f32 (12 : Int) < 2139095040 := by decide +kernel

theorem sumM_step {s x k : Nat} (hs : s ≤ capM k) (hk : k < 100) (hx : x ≤ floatOfInt .f32 (12 : Int)) : floatBits .add .f32 s x = some (fadd s x) ∧ fadd s x ≤ capM (k + 1) := by
  obtain ⟨c1, c2⟩ := capM_dec k (by omega)
  have h12 := cap12
  exact ⟨(add_rnd (by omega) (by omega)).1, by rw [← c2]; exact add_mono c1 h12 hs hx⟩

theorem sumM_cap (g : Nat → Nat) : ∀ k, k ≤ 100 → (∀ j, j < k → g j ≤ floatOfInt .f32 (12 : Int)) → sumM g k ≤ capM k
  | 0, _, _ => by show (0 : Nat) ≤ _; exact Nat.zero_le _
  | k + 1, hk, h => by
    rw [sumM_succ]
    exact (sumM_step (sumM_cap g k (by omega) (fun j hj => h j (by omega))) (by omega) (h k (by omega))).2

def meanM (s n : Nat) : Nat := fdiv s (floatOfInt .f32 ((n : Nat) : Int))

theorem meanM_ok {s k n : Nat} (hs : s ≤ capM k) (hk : k ≤ 100) (h0 : 0 < n) (h1 : n ≤ 100) : floatBits .quo .f32 s (floatOfInt .f32 ((n : Nat) : Int)) = some (meanM s n) ∧ fin32 (meanM s n) = true := by
  obtain ⟨c1, _⟩ := capM_dec k (by omega)
  obtain ⟨m, rfl⟩ : ∃ m, n = m + 1 := ⟨n - 1, by omega⟩
  obtain ⟨d1, d2⟩ := whole_nat m (by omega)
  have e : ((m + 1 : Nat) : Int) = (m : Int) + 1 := by omega
  unfold meanM
  rw [e]
  refine ⟨(div_rnd (by omega) d1 (by omega)).1, fin_of_lt (Nat.lt_of_le_of_lt (div_mono (x := s) (X := capM k) (Y := 1065353216) c1 d1 (by decide) hs d2) ?_)⟩
  have h : ∀ k : Nat, k < 101 → fdiv (capM k) 1065353216 < 2139095040 := by decide +kernel
  exact h k (by omega)

theorem mpK_get (g : Int × Int → Nat) (W H : Nat) {x y : Nat} (hW1 : W ≤ 10) (hH1 : H ≤ 10) (hx : x < W) (hy : y < H) : (mpK g W H (W * H))[y * 10 + x]?.getD 0 = g ((x : Int), (y : Int)) := by
  have e1 : (y * 10 + x) % 10 = x := by omega
  have e2 : (y * 10 + x) / 10 = y := by omega
  have hk : y * W + x < W * H := by
    have h2 : (y + 1) * W ≤ H * W := Nat.mul_le_mul_right W (by omega)
    rw [Nat.add_mul, Nat.one_mul] at h2
    rw [Nat.mul_comm W H]
    omega
  unfold mpK
  rw [List.getElem?_map, List.getElem?_range (by omega : y * 10 + x < 100)]
  simp only [Option.map_some, Option.getD_some, e1, e2]
  rw [if_pos ⟨hx, hy, hk⟩]

def MnI (W H : Nat) (hW : 0 < W) (hH : 0 < H) (gk : Nat → Nat) (w : World) (sv : Value) (b5 b6 gb : Nat) (mp : List Nat) (pre : List (Tt W H)) (V : World) : Prop :=
  ∃ s : Nat, s ≤ capM pre.length ∧ V.heap[w.heap.size]? = some (.cells (roomC (W : Int) (H : Int) sv) 34 (0, 0)) ∧ V.heap[b5]? = some (.cells (mpC mp) 94 (0, 0)) ∧ V.heap[b6]? = some (.cells #[.float .f32 s] 29 (0, 0)) ∧ V.heap[gb]? = some (.cells (roomC (W : Int) (H : Int) sv) 34 (0, 0)) ∧ (GoodT W H hW hH pre → s = sumM gk pre.length) ∧ Below w.heap.size w V

theorem mnI_own (W H : Nat) (hW : 0 < W) (hH : 0 < H) (gk : Nat → Nat) (w : World) (sv : Value) (b5 b6 gb : Nat) (mp : List Nat) (B : Nat) (hB : w.heap.size ≤ B) : OwnFrom B (MnI W H hW hH gk w sv b5 b6 gb mp) := by
  intro s V V' row ⟨xs, hx, h0, h1, h2, h3, hg, hb⟩ hg' hr
  have hr2 := fun r e => (hr r e).2
  exact ⟨xs, hx, heap_keptWE h0 hg' hr2, heap_keptWE h1 hg' hr2, heap_keptWE h2 hg' hr2, heap_keptWE h3 hg' hr2, hg, ownFrom_below (β := Unit) (Nat.le_refl _) hB () V V' row hb hg' hr⟩

end Go.Proofs.YtdccmdcgbembpaaDoor

namespace Go.Proofs.YtdccmdcgbembpaaDoor
open Go.RowKit Go.Shelf

attribute [local go_sem] Oper.semAt_some run_store_floatE

def u16s (xs : List Int) : Array Value := (xs.map (Value.int .u16)).toArray

theorem u16s_size (xs : List Int) : (u16s xs).size = xs.length := by simp [u16s]

theorem u16s_cell {V : World} {g : Nat} {xs : List Int} {t : TypeId} {fr : Nat × Nat} (hg : V.heap[g]? = some (.cells (u16s xs) t fr)) (k : Nat) (h : k < xs.length) : V.cell? ⟨g, k, none⟩ = some (.int .u16 (xs[k]?.getD 0)) := by
  rw [cell_of_row V _ _ _ _ _ hg]
  simp [u16s, h]

theorem u16s_set (xs : List Int) (k : Nat) (n : Int) : (u16s xs).setIfInBounds k (.int .u16 n) = u16s (xs.set k n) := by
  apply Array.ext'
  simp [u16s, List.map_set]

theorem u16s_one (xs : List Int) : ∀ v ∈ u16s xs, v.oneCell' = true := by
  intro v hv
  simp only [u16s, List.mem_toArray, List.mem_map] at hv
  obtain ⟨x, _, rfl⟩ := hv
  rfl

theorem u16s_all (xs : List Int) (n : Nat) (h : xs.length = n) : (u16s xs).extract 0 (0 + n) = u16s xs := by
  rw [Nat.zero_add, ← h, ← u16s_size, Array.extract_size]

theorem info_u16 : (Tryd.prog.info? 42).map (·.size) = some 10 := by kernel_rfl

def zU : List Int := [0, 0, 0, 0, 0, 0, 0, 0, 0, 0]

theorem zU_len : zU.length = 10 := rfl

/-- The bits of lit tiles, as far as they have been looked at. -/
def litN (P : Nat → Bool) (W : Nat) : Nat → List Int
  | 0 => zU
  | k + 1 => if P k then (litN P W k).set (k / W) (bits .or .u16 ((litN P W k)[k / W]?.getD 0) ((2 : Int) ^ (k % W))) else litN P W k

theorem litN_len (P : Nat → Bool) (W : Nat) : ∀ k, (litN P W k).length = 10
  | 0 => rfl
  | k + 1 => by
    rw [litN]
    split
    · rw [List.length_set]; exact litN_len P W k
    · exact litN_len P W k

theorem litN_at {P : Nat → Bool} {W x y : Nat} (hW : 0 < W) (hx : x < W) : litN P W (y * W + x + 1) = if P (y * W + x) then (litN P W (y * W + x)).set y (bits .or .u16 ((litN P W (y * W + x))[y]?.getD 0) ((2 : Int) ^ x)) else litN P W (y * W + x) := by
  have e1 : (y * W + x) % W = x := by rw [Nat.mul_comm, Nat.mul_add_mod]; exact Nat.mod_eq_of_lt hx
  have e2 : (y * W + x) / W = y := by rw [Nat.mul_comm, Nat.mul_add_div hW, Nat.div_eq_of_lt hx, Nat.add_zero]
  rw [litN, e1, e2]

/-- Whether a light is enough. -/
def enB (least x : Nat) : Bool := FloatKind.f32.format.order x least == some .gt || FloatKind.f32.format.order x least == some .eq

theorem pow16 {x : Nat} (h : x < 10) : IntKind.u16.wrap ((2 : Int) ^ x) = (2 : Int) ^ x := by
  have h2 : ∀ x : Nat, x < 10 → IntKind.u16.wrap ((2 : Int) ^ x) = (2 : Int) ^ x := by decide +kernel
  exact h2 x h

def LtI (W H : Nat) (hW : 0 < W) (hH : 0 < H) (P : Nat → Bool) (w : World) (sv : Value) (le : Nat) (b3 b4 b5 b6 gb : Nat) (mp : List Nat) (pre : List (Tt W H)) (V : World) : Prop :=
  ∃ xs : List Int, xs.length = 10 ∧ V.heap[w.heap.size]? = some (.cells (roomC (W : Int) (H : Int) sv) 34 (0, 0)) ∧ V.heap[b3]? = some (.cells #[.float .f32 le] 29 (0, 0)) ∧ V.heap[b4]? = some (.cells (u16s zU) 42 (0, 0)) ∧ V.heap[b5]? = some (.cells (mpC mp) 94 (0, 0)) ∧ V.heap[b6]? = some (.cells (u16s xs) 42 (0, 0)) ∧ V.heap[gb]? = some (.cells (roomC (W : Int) (H : Int) sv) 34 (0, 0)) ∧ (GoodT W H hW hH pre → xs = litN P W pre.length) ∧ Below w.heap.size w V

theorem ltI_own (W H : Nat) (hW : 0 < W) (hH : 0 < H) (P : Nat → Bool) (w : World) (sv : Value) (le : Nat) (b3 b4 b5 b6 gb : Nat) (mp : List Nat) (B : Nat) (hB : w.heap.size ≤ B) : OwnFrom B (LtI W H hW hH P w sv le b3 b4 b5 b6 gb mp) := by
  intro s V V' row ⟨xs, hx, h0, h1, h2, h3, h4, h5, hg, hb⟩ hg' hr
  have hr2 := fun r e => (hr r e).2
  exact ⟨xs, hx, heap_keptWE h0 hg' hr2, heap_keptWE h1 hg' hr2, heap_keptWE h2 hg' hr2, heap_keptWE h3 hg' hr2, heap_keptWE h4 hg' hr2, heap_keptWE h5 hg' hr2, hg, ownFrom_below (β := Unit) (Nat.le_refl _) hB () V V' row hb hg' hr⟩

set_option maxRecDepth 100000 in
set_option maxHeartbeats 8000000 in
theorem litOf_any (W H : Nat) (hW : 0 < W) (hH : 0 < H) (sv : Value) (ws : List Wn) (ok : RmOk (W : Int) (H : Int) ws) (hwf : ∀ x ∈ ws, WnWf x) (g : Int × Int → Nat) (hgd : g = fun t => litW (W : Int) (H : Int) t (fun _ => true) ws) (le : Nat) (P : Nat → Bool) (hP : P = fun k => enB le (g (tk W H hW hH k).1)) (w : World) (hws : WinsAt w sv ws) :
    Calls Tryd.prog 58 #[.agg (roomC (W : Int) (H : Int) sv), .float .f32 le] w fun e w' => e = .returned (.agg (u16s (litN P W (W * H)))) ∧ Below w.heap.size w w' := by
  refine (callsIn_wide (n := 4)).1 ?_
  have hW1 : W ≤ 10 := by have := ok.w1; omega
  have hH1 : H ≤ 10 := by have := ok.h1; omega
  obtain ⟨mp, hmp⟩ : ∃ mp, mp = mpK g W H (W * H) := ⟨_, rfl⟩
  have HMO : Hid (∀ V, WinsAt V sv ws → Calls Tryd.prog 51 #[.agg (roomC (W : Int) (H : Int) sv)] V fun e w' => e = .returned (.agg (mpC mp)) ∧ Below V.heap.size V w') := by
    rw [hmp]
    exact fun V h => mapOf_any W H hW hH sv ws ok hwf g hgd V h
  have LM : Hid (mp.length = 100) := by rw [hmp]; exact mpK_len g W H (W * H)
  have HGT : Hid (∀ x y : Nat, x < W → y < H → mp[y * 10 + x]?.getD 0 = g ((x : Int), (y : Int))) := by rw [hmp]; exact fun x y hx hy => mpK_get g W H hW1 hH1 hx hy
  have HPK : Hid (∀ x y : Nat, x < W → y < H → P (y * W + x) = enB le (g ((x : Int), (y : Int)))) := by rw [hP]; exact fun x y hx hy => by show enB le (g (tk W H hW hH (y * W + x)).1) = _; rw [tk_at W H hW hH hx hy]
  have HLN := Lib.hid (litN_len P W (W * H))
  have HW := Lib.hid hws
  clear hws hwf hgd ok hmp hP
  refine callsIn_of_wp_marks Tryd.func58 rfl trivial ?_ rfl
  simp only [Tryd.ntmps58, List.size_toArray, List.length_cons, List.length_nil, Nat.reduceAdd, Nat.reduceSub, Array.replicate_succ, Array.replicate_zero, List.push_toArray, List.append_toArray, List.nil_append, List.cons_append]
  refine wpIn_wide.2 ?_
  go_upto_region 1 with (fail)
  refine abs_world (fun V => V.heap[w.heap.size]? = some (.cells (roomC (W : Int) (H : Int) sv) 34 (0, 0)) ∧ V.heap[w.heap.size + 1]? = some (.cells #[.float .f32 le] 29 (0, 0)) ∧ V.heap[w.heap.size + 1 + 1]? = some (.cells (u16s zU) 42 (0, 0)) ∧ Below w.heap.size w V) ⟨(three_new _ _ _ _).1, (three_new _ _ _ _).2.1, (three_new _ _ _ _).2.2.1, (three_new _ _ _ _).2.2.2⟩ ?_
  rintro V ⟨h0, h3, h4, hb⟩
  have H0 := Lib.hid h0
  have H3 := Lib.hid h3
  have H4 := Lib.hid h4
  have HV := Lib.hid (wins_below HW.out hb)
  have n01 : w.heap.size < w.heap.size + 1 := by omega
  have n12 : w.heap.size + 1 < w.heap.size + 1 + 1 := by omega
  generalize w.heap.size + 1 + 1 = b4 at *
  generalize w.heap.size + 1 = b3 at *
  clear h0 h3 h4
  go_upto_region 2 with (first | (refine wpList_load_part rfl 34 _ rfl w.heap.size 0 3 rfl 34 (roomC (W : Int) (H : Int) sv) (0, 0) _ H0.out Tryd.underlying34 rfl info_room (room_fits _ _ _) _ (room_all _ _ _) ?_) | (go_at_call 51; refine (HMO.out _ HV.out).mono ?_; rintro e W4 ⟨rfl, hb1⟩; replace H0 := Lib.hid (below_row hb1 H0.out); replace H3 := Lib.hid (below_row hb1 H3.out); replace H4 := Lib.hid (below_row hb1 H4.out); replace hb := hb.trans (hb1.mono hb.size); clear hb1) | (refine wpList_store_part rfl 94 _ _ rfl _ 0 (mpC mp) rfl rfl 94 _ (heap_alloc_new _ _) (by rw [mpC_size, LM.out]; exact info_lm) (by rw [mpC_size, LM.out]; decide) (mpC_one _) ?_; rw [laid_allwE _ _ (by rw [mpC_size, LM.out]; rfl)]))
  refine abs_world (fun X => X.heap[w.heap.size]? = some (.cells (roomC (W : Int) (H : Int) sv) 34 (0, 0)) ∧ X.heap[b3]? = some (.cells #[.float .f32 le] 29 (0, 0)) ∧ X.heap[b4]? = some (.cells (u16s zU) 42 (0, 0)) ∧ X.heap[W4.heap.size]? = some (.cells (mpC mp) 94 (0, 0)) ∧ Below w.heap.size w X) ⟨below_row (zbelE _ _ _) H0.out, below_row (zbelE _ _ _) H3.out, below_row (zbelE _ _ _) H4.out, setRow_heap _ _ _ _ _ _ (heap_alloc_new _ _), below_setRow (hb.alloc hb.size _) hb.size _⟩ ?_
  have l4 := row_lt H4.out
  clear H0 H3 H4 HV hb
  generalize W4.heap.size = b5 at *
  rintro X ⟨h0, h3, h4, h5, hb⟩
  have H0 := Lib.hid h0
  have H3 := Lib.hid h3
  have H4 := Lib.hid h4
  have H5 := Lib.hid h5
  clear h0 h3 h4 h5
  go_upto_region 3 with (fail)
  refine abs_world (fun Y => Y.heap[w.heap.size]? = some (.cells (roomC (W : Int) (H : Int) sv) 34 (0, 0)) ∧ Y.heap[b3]? = some (.cells #[.float .f32 le] 29 (0, 0)) ∧ Y.heap[b4]? = some (.cells (u16s zU) 42 (0, 0)) ∧ Y.heap[b5]? = some (.cells (mpC mp) 94 (0, 0)) ∧ Y.heap[X.heap.size]? = some (.cells (u16s zU) 42 (0, 0)) ∧ Below w.heap.size w Y) ⟨below_row ((Below.refl X.heap.size _).alloc (Nat.le_refl _) _) H0.out, below_row ((Below.refl X.heap.size _).alloc (Nat.le_refl _) _) H3.out, below_row ((Below.refl X.heap.size _).alloc (Nat.le_refl _) _) H4.out, below_row ((Below.refl X.heap.size _).alloc (Nat.le_refl _) _) H5.out, heap_alloc_new _ _, hb.alloc hb.size _⟩ ?_
  have l5 := row_lt H5.out
  clear H0 H3 H4 H5 hb
  generalize X.heap.size = b6 at *
  rintro W0 ⟨h0, h3, h4, h5, h6, hb⟩
  have H0 := Lib.hid h0
  have H3 := Lib.hid h3
  have H4 := Lib.hid h4
  have H5 := Lib.hid h5
  have H6 := Lib.hid h6
  have HB := Lib.hid hb
  have l6 := row_lt h6
  have hle : w.heap.size ≤ W0.heap.size := hb.size
  clear h0 h3 h4 h5 h6 hb HMO
  go_wp2_with (first | (refine wpList_load_part rfl 34 _ rfl w.heap.size 0 3 rfl 34 (roomC (W : Int) (H : Int) sv) (0, 0) _ H0.out Tryd.underlying34 rfl info_room (room_fits _ _ _) _ (room_all _ _ _) ?_) | (go_at_call 53; refine (eachTile_any _ _ _ _).mono ?_; rintro e w' ⟨rfl, rfl⟩))
  refine (wpIn_wide (n := 4)).1 ?_
  refine wpIn_rangeFunc_ownH rfl (by decide) (gf := 107) (lb := #[.pointer (some ⟨W0.heap.size, 0, none⟩)]) rfl trivial (enters_of Tryd.func107 (by kernel_rfl) rfl)
    (eachTile_stops W H hW hH hW1 hH1 sv W0.heap.size _ (heap_alloc_new _ _)) keepsAt_t (keepsAt_b (by simp)) (Below.refl _ _) (fun _ => rfl)
    (LtI W H hW hH P w sv le b3 b4 b5 b6 W0.heap.size mp) (fun _ _ _ => False) (ltI_own W H hW hH P w sv le b3 b4 b5 b6 _ mp _ (by simp; omega)) (fun _ _ _ _ _ hs _ _ => hs) ?h0
    (fun x a' V => ∃ b7 : Nat, W0.heap.size < b7 ∧ a' = { tmps := #[.agg (roomC (W : Int) (H : Int) sv), .float .f32 le, .pointer (some ⟨w.heap.size, 0, none⟩), .pointer (some ⟨b3, 0, none⟩), .pointer (some ⟨b4, 0, none⟩), .pointer (some ⟨b5, 0, none⟩), .pointer (some ⟨b6, 0, none⟩), .pointer (some ⟨b7, 0, none⟩), .agg (roomC (W : Int) (H : Int) sv), .agg (mpC mp), .agg (roomC (W : Int) (H : Int) sv), .func (.func 107) #[] #[.pointer (some ⟨W0.heap.size, 0, none⟩)], .agg (tileC x.1.1 x.1.2), undef, undef, undef, undef, undef, undef, undef, undef, undef, undef, undef, undef, undef, undef, undef, undef, undef, undef, undef], defers := [] } ∧ V.heap[b7]? = some (.cells (tileC x.1.1 x.1.2) 28 (0, 0)))
    (fun x a' s V V' row hx hg hr => by obtain ⟨b4, l4, e, h⟩ := hx; exact ⟨b4, l4, e, heap_keptWE h hg (fun r e => (hr r e).2)⟩) ?assign ?body ?done ?stop
  case h0 =>
    exact ⟨zU, zU_len, below_row ((Below.refl W0.heap.size _).alloc (Nat.le_refl _) _) H0.out, below_row ((Below.refl W0.heap.size _).alloc (Nat.le_refl _) _) H3.out, below_row ((Below.refl W0.heap.size _).alloc (Nat.le_refl _) _) H4.out, below_row ((Below.refl W0.heap.size _).alloc (Nat.le_refl _) _) H5.out, below_row ((Below.refl W0.heap.size _).alloc (Nat.le_refl _) _) H6.out, heap_alloc_new _ _, fun _ => rfl, HB.out.alloc hle _⟩
  case assign =>
    rintro l pre x W2 K hI hK
    have hgl : W0.heap.size < W2.heap.size := by obtain ⟨_, _, _, _, _, _, _, h5, _⟩ := hI; exact row_lt h5
    refine region_plain_round (by rfl) (fun ⟨_, _, h⟩ => h) ?_
    go_wp2_with (refine wpList_store_part rfl 28 _ _ rfl _ 0 (tileC x.1.1 x.1.2) rfl rfl 28 _ (heap_alloc_new _ _) info_tile (Nat.le_refl _) (tile_one _ _) ?_; rw [laid_allwE _ _ (by rfl)])
    have hbn : ∀ o, Below W2.heap.size W2 ((W2.alloc o).setRow W2.heap.size (tileC x.1.1 x.1.2)) := fun o => below_setRow ((Below.refl _ _).alloc (Nat.le_refl _) _) (Nat.le_refl _) _
    exact hK _ _ ((keeps_of_belowWE (hbn _)).from _) (fun _ ho => below_row (hbn _) ho) (ltI_own W H hW hH P w sv le b3 b4 b5 b6 _ mp _ (Nat.le_refl _) _ _ _ none hI (grown_of_belowE (hbn _) none) (fun r e => by cases e)) ⟨_, hgl, rfl, setRow_heap _ _ _ _ _ _ (heap_alloc_new _ _)⟩
  case body =>
    clear H0 H3 H4 H5 H6 HB
    rintro l pre ⟨⟨a1, a2⟩, ha⟩ a' V hl0 hlr ⟨xs, hxl, h0, h3, h4, h5, h6, hgr, hgd, hbw⟩ ⟨b7, hl7, rfl, h7⟩ hl
    have ha2 := ha
    obtain ⟨p0, p1, p2, p3⟩ := ha2
    dsimp only at p0 p1 p2 p3
    obtain ⟨x, rfl⟩ := Int.eq_ofNat_of_zero_le p0
    obtain ⟨y, rfl⟩ := Int.eq_ofNat_of_zero_le p2
    have hxl1 : x < W := by omega
    have hyl : y < H := by omega
    have HGX := Lib.hid (HGT.out x y hxl1 hyl)
    have HPX := HPK.out x y hxl1 hyl
    have HM : Hid (GoodT W H hW hH (pre ++ [⟨((x : Int), (y : Int)), ha⟩]) → (if enB le (g ((x : Int), (y : Int))) then xs.set y (bits .or .u16 (xs[y]?.getD 0) ((2 : Int) ^ x)) else xs) = litN P W (pre ++ [(⟨((x : Int), (y : Int)), ha⟩ : Tt W H)]).length) := Lib.hid (fun hgs => by
      obtain ⟨hgp, hxk⟩ := goodT_snoc hgs
      obtain ⟨x', y', hx', hy', hk', htk⟩ := tk_split W H hW hH hl
      have e : ((x : Int), (y : Int)) = ((x' : Int), (y' : Int)) := by rw [← htk, ← hxk]
      have e1 : x = x' := by have := congrArg Prod.fst e; simp at this; omega
      have e2 : y = y' := by have := congrArg Prod.snd e; simp at this; omega
      subst e1 e2
      rw [List.length_append, List.length_singleton, hgd hgp, hk', litN_at hW hxl1, HPX])
    unfold enB at HM
    generalize g ((x : Int), (y : Int)) = gv at *
    have H0 := Lib.hid h0
    have H3 := Lib.hid h3
    have H4 := Lib.hid h4
    have H5 := Lib.hid h5
    have H6 := Lib.hid h6
    have H7 := Lib.hid h7
    have HG := Lib.hid hgr
    have HBW := Lib.hid hbw
    have HXL := Lib.hid hxl
    have z1 : (x : Int) < 10 := by omega
    have z2 : (0 : Int) ≤ (x : Int) := by omega
    have z3 : (y : Int) < 10 := by omega
    have z4 : (0 : Int) ≤ (y : Int) := by omega
    have hpw := pow16 (show x < 10 by omega)
    have hpw2 : (2 : Int) ^ x % 65536 = (2 : Int) ^ x := hpw
    have HVD : Hid (Below V.heap.size V V.drew) := Lib.hid (Below.refl V.heap.size V).drew
    have qle : V.cell? ⟨b3, 0, none⟩ = some (.float .f32 le) := by rw [cell_of_row _ _ _ _ _ _ h3]; rfl
    have qy : V.cell? ⟨b7, 1, none⟩ = some (.int .i8 (y : Int)) := by rw [cell_of_row _ _ _ _ _ _ h7]; rfl
    have qx : V.cell? ⟨b7, 0, none⟩ = some (.int .i8 (x : Int)) := by rw [cell_of_row _ _ _ _ _ _ h7]; rfl
    have qm := mpC_cell h5 (y * 10 + x) (by rw [LM.out]; omega)
    rw [HGX.out] at qm
    have q6 := u16s_cell h6 y (by omega)
    have f6 := frozen_of_row V b6 y _ _ h6
    clear hgd h0 h3 h4 h5 h6 h7 hgr hbw hxl p0 p1 p2 p3 HGT HPK HPX
    generalize hp : (FloatKind.f32.format.order gv le == some Ordering.gt || FloatKind.f32.format.order gv le == some Ordering.eq) = p at *
    dsimp only
    refine wpIn_block (wpIn_seq ?_)
    refine still_tail_round (k := 8) arrU (by kernel_rfl) (no_defer (by rfl)) (fun ⟨_, _, h⟩ => h) ?_
    simp only [List.take_succ_cons, List.take_zero, List.drop_succ_cons, List.drop_zero]
    repeat still_step
    refine wpStill_nil ?_
    cases p with
    | false =>
      go_wp2
      gi_wp2
      exact ⟨(keeps_of_belowWE HVD.out).from _, fun o ho => ho, xs, HXL.out, H0.out, H3.out, H4.out, H5.out, H6.out, HG.out, fun hg => by have := HM.out hg; simpa using this, HBW.out.trans (HVD.out.mono HBW.out.size)⟩
    | true =>
      go_wp2
      gi_wp2
      refine still_tail_round (k := 9) arrU (by kernel_rfl) (no_defer (by rfl)) (fun ⟨_, _, h⟩ => h) ?_
      simp only [List.take_succ_cons, List.take_zero, List.drop_succ_cons, List.drop_zero]
      repeat still_step
      refine wpStill_nil ?_
      go_wp2
      have HV2 : Hid (Below V.heap.size V V.drew.drew) := Lib.hid HVD.out.drew
      have hbn : Below w.heap.size w (V.drew.drew.setCell ⟨b6, y, none⟩ (.int .u16 (bits .or .u16 (xs[y]?.getD 0) ((2 : Int) ^ x)))) := (HBW.out.trans (HV2.out.mono HBW.out.size)).setCell (p := ⟨b6, y, none⟩) (by simp; omega) _
      exact ⟨((keeps_of_belowWE HV2.out).trans (KeepsOthers.setCell _ _ _)).from _, fun o ho => (heap_setCell_other _ _ _ _ (by simp; omega)).trans ho, xs.set y (bits .or .u16 (xs[y]?.getD 0) ((2 : Int) ^ x)), by rw [List.length_set]; exact HXL.out, (heap_setCell_other _ _ _ _ (by simp; omega)).trans H0.out, (heap_setCell_other _ _ _ _ (by simp; omega)).trans H3.out, (heap_setCell_other _ _ _ _ (by simp; omega)).trans H4.out, (heap_setCell_other _ _ _ _ (by simp; omega)).trans H5.out, by show (V.setCell ⟨b6, y, none⟩ _).heap[b6]? = _; rw [heap_setCell_same _ _ _ _ _ _ H6.out, u16s_set], (heap_setCell_other _ _ _ _ (by simp; omega)).trans HG.out, fun hg => by have := HM.out hg; simpa using this, hbn⟩
  case done =>
    clear H0 H3 H4 H5 H6 HB HGT HPK
    rintro D zs V hD rfl ⟨xs, hxl, h0, h3, h4, h5, h6, hgr, hgd, hb⟩ hK
    rename_i K hcont
    have hD' : w.heap.size ≤ D := by first | omega | (simp at hD; omega)
    have hDb : D ≠ b4 := by first | omega | (simp at hD; omega)
    have hM := hgd (goodT_all W H hW hH (W * H))
    rw [tks_length] at hM
    subst hM
    have H4 := Lib.hid h4
    have H6 := Lib.hid h6
    have HK := Lib.hid hK
    clear hgd h0 h3 h4 h5 h6 hgr hD hK hxl
    refine hcont _ _ ?_
    have hle1 : w.heap.size ≤ b4 := by omega
    go_wp2_with (first | (refine wpList_load_part rfl 42 _ rfl b6 0 10 rfl 42 (u16s (litN P W (W * H))) (0, 0) _ H6.out Tryd.underlying42 rfl info_u16 (by rw [u16s_size, HLN.out]; decide) (u16s (litN P W (W * H))) (u16s_all _ 10 HLN.out) ?_) | (refine wpList_store_part rfl 42 _ _ rfl b4 0 (u16s (litN P W (W * H))) rfl rfl 42 _ H4.out (by rw [u16s_size, HLN.out]; exact info_u16) (by rw [u16s_size, u16s_size, HLN.out, zU_len]; decide) (u16s_one _) ?_; rw [laid_allwE _ _ (by rw [u16s_size, u16s_size, HLN.out, zU_len])]))
    have hK2 : (V.setRow b4 (u16s (litN P W (W * H)))).heap[D]? = some (.deferred (some [])) := (setRow_other _ _ _ _ hDb).trans HK.out
    have hR := setRow_heap V b4 _ (u16s (litN P W (W * H))) _ _ H4.out
    refine ⟨by simp, .inl ⟨_, _, rfl, run_takeDeferred hK2, ?_⟩⟩
    refine ⟨.agg (u16s (litN P W (W * H))), results_cell_row (fn := Tryd.f58) rfl _ _ _ _ _ _ _ rfl ((World.putObj_heap_other (Ne.symm hDb)).trans hR) Tryd.underlying42 rfl (by rw [u16s_size, HLN.out]; exact info_u16), rfl, ?_⟩
    exact (below_setRow hb hle1 _).trans (belowK_b (w := w) (Nat.le_refl _) _ D _ _ hD' hK2 rfl rfl)
  case stop =>
    rintro D c pre V _ _ h _
    exact h.elim

end Go.Proofs.YtdccmdcgbembpaaDoor

namespace Go.Proofs.YtdccmdcgbembpaaDoor
open Go.ChangeShapes Go.WideShapes Go.ChangeAt Go.RowKit Go.Deep Go.Joins

attribute [local go_sem] run_store_floatE

theorem fin_iffT {b : Nat} : (FloatKind.f32.format.order b b = some .eq ∧ fin32 b = true) ∨ (FloatKind.f32.format.order b b = none ∧ fin32 b = false) := by
  unfold fin32
  show ((Ieee.single.read b).order (Ieee.single.read b) = some .eq ∧ _) ∨ _
  generalize hd : Ieee.single.read b = d
  have e : FloatKind.f32.format.order b b = d.order d := by show (Ieee.single.read b).order (Ieee.single.read b) = _; rw [hd]
  rw [e]
  cases d with
  | number s m e => left; simp [Ieee.Datum.order, Ieee.Datum.isNaN]
  | infinity s => left; simp [Ieee.Datum.order, Ieee.Datum.isNaN]
  | nan s f => right; exact ⟨rfl, rfl⟩

set_option maxRecDepth 100000 in
set_option maxHeartbeats 1000000 in
theorem iNumT (b : Nat) (w : World) : Calls Tryd.prog 57 #[.float .f32 b] w fun e w' => e = .returned (.bool (fin32 b)) ∧ w = w' := by
  rcases fin_iffT (b := b) with ⟨h, e⟩ | ⟨h, e⟩
  all_goals
    rw [e]
    clear e
    go_enter Tryd.func57, Tryd.ntmps57
    go_wp2
    go_ret
    exact ⟨rfl, rfl⟩

set_option maxRecDepth 100000 in
set_option maxHeartbeats 1000000 in
theorem sNumT (b : Nat) (w : World) : Calls Tryd.prog 56 #[.float .f32 b] w fun e w' => e = .returned (.bool (fin32 b)) ∧ w = w' := by
  rcases fin_iffT (b := b) with ⟨h, e⟩ | ⟨h, e⟩
  all_goals
    rw [e]
    clear e
    go_enter Tryd.func56, Tryd.ntmps56
    go_wp2
    go_ret
    exact ⟨rfl, rfl⟩

theorem wpList_buildTT {P : Program} {ops : Array Oper} {rest : List Oper} {o : Oper} {a : Act} {w : World} {Q : Exit → Act → World → Prop} (hg : o.guard = none) (t : TypeId) (parts : Array (Nat × Operand)) (ho : o.op = .build t parts)
    (d : Option Tmp) (hd : o.dst = d) (l : List (Nat × Value)) (hp : parts.toList.map (fun x => (x.1, a.eval x.2)) = l) (cells : Array Value) (hf : P.built t l = some cells)
    (h : wpList P ops Q rest (a.put d (.agg cells)) w) : wpList P ops Q (o :: rest) a w := by
  refine wpList_buildTo hg t parts ho d hd cells ?_ h
  rw [Array.toList_map, ← hf, ← hp]

theorem results_lit {fn : Func} {p u : Tmp} (h : fn.results = #[.cell p 42, .tmp u]) (tmps : Array Value) (w : World) (g : Nat) (xs : List Int) (hx : xs.length = 10) (hp : tmps.getD p undef = .pointer (some ⟨g, 0, none⟩)) (hg : w.heap[g]? = some (.cells (u16s xs) 42 (0, 0))) :
    (results fn tmps).run Tryd.prog w = .ok (.tuple #[.agg (u16s xs), tmps.getD u undef]) w := by
  have e := run_loadVar_row w g 42 42 (u16s xs) (0, 0) _ hg Tryd.underlying42 rfl (by rw [u16s_size, hx]; exact info_u16)
  have e0 : (results fn tmps).run Tryd.prog w =
      ((asAddr (tmps.getD p undef)).run Tryd.prog w).andThen fun a w₁ => ((loadVar 42 a).run Tryd.prog w₁).andThen fun x w₂ => .ok (.tuple #[x, tmps.getD u undef]) w₂ := by
    simp only [results, h]
    simp [Sem.run_bind, Result.andThen]
  rw [e0, hp]
  simp only [asAddr, Sem.run_pure, Result.andThen_ok, e]

set_option maxRecDepth 100000 in
set_option maxHeartbeats 2000000 in
theorem iLit_n1 (wd hg : Int) (sv : Value) (ws : List Wn) (le : Nat) (e0 e1 e2 e3 : Addr) (w : World) (hws : WinsAt w sv ws) (hE : ErrsAt w e0 e1 e2 e3) (hv : okRm wd hg ws = false) :
    Calls Tryd.prog 19 #[.agg (roomC wd hg sv), .float .f32 le] w fun e w' => e = .returned (.tuple #[.agg (u16s zU), .int .i64 1]) ∧ Below w.heap.size w w' := by
  have HVR : Hid (∀ V, WinsAt V sv ws → Calls Tryd.prog 49 #[.agg (roomC wd hg sv)] V fun e w' => e = .returned (.bool false) ∧ Below V.heap.size V w') := Lib.hid (fun V h => by have := ValidRoom_any wd hg sv ws V h; rw [hv] at this; exact this)
  have HNM : Hid (∀ V, Calls Tryd.prog 57 #[.float .f32 le] V fun e w' => e = .returned (.bool (fin32 le)) ∧ V = w') := Lib.hid (fun V => by have := iNumT le V; exact this)
  have HRF : Hid (∀ V, ErrsAt V e0 e1 e2 e3 → Calls Tryd.prog 48 #[.bool false, .bool (fin32 le), .bool true] V fun e w' => e = .returned (.iface 211 (.pointer (some e0))) ∧ V = w') := Lib.hid (fun V h => refusal_any h false (fin32 le) true)
  have HW := Lib.hid hws
  have HX := Lib.hid hE
  have HZB : Hid (Tryd.prog.built 42 [] = some (u16s zU)) := by unfold Hid; kernel_rfl
  have hn := fun w => run_neq_held_nil (P := Tryd.prog) (w := w) 88 211 (.pointer (some e0)) (by kernel_rfl)
  clear hws hE hv
  go_enter Tryd.func19, Tryd.ntmps19
  go_upto_region 1 with (fail)
  refine abs_world (fun V => V.heap[w.heap.size]? = some (.cells (roomC wd hg sv) 34 (0, 0)) ∧ V.heap[w.heap.size + 1]? = some (.cells (u16s zU) 42 (0, 0)) ∧ Below w.heap.size w V) (two_at w (.cells (roomC wd hg sv) 34) (.cells (u16s zU) 42)) ?_
  rintro V ⟨h0, h1, hb⟩
  have H0 := Lib.hid h0
  have H1 := Lib.hid h1
  have HV := Lib.hid (wins_below HW.out hb)
  replace HX := Lib.hid (errs_below HX.out hb)
  have n01 : w.heap.size < w.heap.size + 1 := by omega
  have hle1 : w.heap.size ≤ w.heap.size + 1 := by omega
  generalize w.heap.size + 1 = b1 at *
  clear h0 h1
  go_wp2_with (first | (refine wpList_load_part rfl 34 _ rfl w.heap.size 0 3 rfl 34 (roomC wd hg sv) (0, 0) _ H0.out Tryd.underlying34 rfl info_room (room_fits _ _ _) _ (room_all _ _ _) ?_) | (go_at_call 49; refine (HVR.out _ HV.out).mono ?_; rintro e W1 ⟨rfl, hb1⟩; replace H0 := Lib.hid (below_row hb1 H0.out); replace H1 := Lib.hid (below_row hb1 H1.out); replace HV := Lib.hid (wins_below HV.out hb1); replace HX := Lib.hid (errs_below HX.out hb1); replace hb := hb.trans (hb1.mono hb.size); clear hb1) | (go_at_call 57; refine (HNM.out _).mono ?_; rintro e w' ⟨rfl, rfl⟩) | (go_at_call 48; refine (HRF.out _ HX.out).mono ?_; rintro e W3 ⟨rfl, rfl⟩) | (go_at_call 50; refine (codeOf_any HX.out 1).mono ?_; rintro e W4 ⟨rfl, rfl⟩) | (refine wpList_buildTT rfl 42 _ rfl _ rfl [] rfl (u16s zU) HZB.out ?_) | (refine wpList_store_part rfl 42 _ _ rfl b1 0 (u16s zU) rfl rfl 42 (u16s zU) H1.out (by rw [u16s_size, zU_len]; exact info_u16) (Nat.le_refl _) (u16s_one _) ?_; rw [laid_allwE _ _ (by rfl)]))
  refine bodyPost_ret (results_lit rfl _ _ b1 zU zU_len rfl (setRow_heap _ _ _ _ _ _ H1.out)) rfl ?_
  exact ⟨rfl, below_setRow hb hle1 _⟩

set_option maxRecDepth 100000 in
set_option maxHeartbeats 2000000 in
theorem iLit_n2 (wd hg : Int) (sv : Value) (ws : List Wn) (le : Nat) (e0 e1 e2 e3 : Addr) (w : World) (hws : WinsAt w sv ws) (hE : ErrsAt w e0 e1 e2 e3) (hv : okRm wd hg ws = true) (hn2 : fin32 le = false) :
    Calls Tryd.prog 19 #[.agg (roomC wd hg sv), .float .f32 le] w fun e w' => e = .returned (.tuple #[.agg (u16s zU), .int .i64 2]) ∧ Below w.heap.size w w' := by
  have HVR : Hid (∀ V, WinsAt V sv ws → Calls Tryd.prog 49 #[.agg (roomC wd hg sv)] V fun e w' => e = .returned (.bool true) ∧ Below V.heap.size V w') := Lib.hid (fun V h => by have := ValidRoom_any wd hg sv ws V h; rw [hv] at this; exact this)
  have HNM : Hid (∀ V, Calls Tryd.prog 57 #[.float .f32 le] V fun e w' => e = .returned (.bool false) ∧ V = w') := Lib.hid (fun V => by have := iNumT le V; rw [hn2] at this; exact this)
  have HRF : Hid (∀ V, ErrsAt V e0 e1 e2 e3 → Calls Tryd.prog 48 #[.bool true, .bool false, .bool true] V fun e w' => e = .returned (.iface 211 (.pointer (some e1))) ∧ V = w') := Lib.hid (fun V h => refusal_any h true false true)
  have HW := Lib.hid hws
  have HX := Lib.hid hE
  have HZB : Hid (Tryd.prog.built 42 [] = some (u16s zU)) := by unfold Hid; kernel_rfl
  have hn := fun w => run_neq_held_nil (P := Tryd.prog) (w := w) 88 211 (.pointer (some e1)) (by kernel_rfl)
  clear hws hE hv hn2
  go_enter Tryd.func19, Tryd.ntmps19
  go_upto_region 1 with (fail)
  refine abs_world (fun V => V.heap[w.heap.size]? = some (.cells (roomC wd hg sv) 34 (0, 0)) ∧ V.heap[w.heap.size + 1]? = some (.cells (u16s zU) 42 (0, 0)) ∧ Below w.heap.size w V) (two_at w (.cells (roomC wd hg sv) 34) (.cells (u16s zU) 42)) ?_
  rintro V ⟨h0, h1, hb⟩
  have H0 := Lib.hid h0
  have H1 := Lib.hid h1
  have HV := Lib.hid (wins_below HW.out hb)
  replace HX := Lib.hid (errs_below HX.out hb)
  have n01 : w.heap.size < w.heap.size + 1 := by omega
  have hle1 : w.heap.size ≤ w.heap.size + 1 := by omega
  generalize w.heap.size + 1 = b1 at *
  clear h0 h1
  go_wp2_with (first | (refine wpList_load_part rfl 34 _ rfl w.heap.size 0 3 rfl 34 (roomC wd hg sv) (0, 0) _ H0.out Tryd.underlying34 rfl info_room (room_fits _ _ _) _ (room_all _ _ _) ?_) | (go_at_call 49; refine (HVR.out _ HV.out).mono ?_; rintro e W1 ⟨rfl, hb1⟩; replace H0 := Lib.hid (below_row hb1 H0.out); replace H1 := Lib.hid (below_row hb1 H1.out); replace HV := Lib.hid (wins_below HV.out hb1); replace HX := Lib.hid (errs_below HX.out hb1); replace hb := hb.trans (hb1.mono hb.size); clear hb1) | (go_at_call 57; refine (HNM.out _).mono ?_; rintro e w' ⟨rfl, rfl⟩) | (go_at_call 48; refine (HRF.out _ HX.out).mono ?_; rintro e W3 ⟨rfl, rfl⟩) | (go_at_call 50; refine (codeOf_any HX.out 2).mono ?_; rintro e W4 ⟨rfl, rfl⟩) | (refine wpList_buildTT rfl 42 _ rfl _ rfl [] rfl (u16s zU) HZB.out ?_) | (refine wpList_store_part rfl 42 _ _ rfl b1 0 (u16s zU) rfl rfl 42 (u16s zU) H1.out (by rw [u16s_size, zU_len]; exact info_u16) (Nat.le_refl _) (u16s_one _) ?_; rw [laid_allwE _ _ (by rfl)]))
  refine bodyPost_ret (results_lit rfl _ _ b1 zU zU_len rfl (setRow_heap _ _ _ _ _ _ H1.out)) rfl ?_
  exact ⟨rfl, below_setRow hb hle1 _⟩

set_option maxRecDepth 100000 in
set_option maxHeartbeats 2000000 in
theorem iLit_y (wd hg : Int) (W H : Nat) (hwd : wd = (W : Int)) (hhg : hg = (H : Int)) (hW : 0 < W) (hH : 0 < H) (sv : Value) (ws : List Wn) (hwf : ∀ x ∈ ws, WnWf x) (g : Int × Int → Nat) (hgd : g = fun t => litW (W : Int) (H : Int) t (fun _ => true) ws) (le : Nat) (hn2 : fin32 le = true) (P : Nat → Bool) (hP : P = fun k => enB le (g (tk W H hW hH k).1)) (e0 e1 e2 e3 : Addr) (w : World) (hws : WinsAt w sv ws) (hE : ErrsAt w e0 e1 e2 e3) (hv : okRm wd hg ws = true) :
    Calls Tryd.prog 19 #[.agg (roomC wd hg sv), .float .f32 le] w fun e w' => e = .returned (.tuple #[.agg (u16s (litN P W (W * H))), .int .i64 0]) ∧ Below w.heap.size w w' := by
  have HVR : Hid (∀ V, WinsAt V sv ws → Calls Tryd.prog 49 #[.agg (roomC wd hg sv)] V fun e w' => e = .returned (.bool true) ∧ Below V.heap.size V w') := Lib.hid (fun V h => by have := ValidRoom_any wd hg sv ws V h; rw [hv] at this; exact this)
  have HNM : Hid (∀ V, Calls Tryd.prog 57 #[.float .f32 le] V fun e w' => e = .returned (.bool true) ∧ V = w') := Lib.hid (fun V => by have := iNumT le V; rw [hn2] at this; exact this)
  have HRF : Hid (∀ V, ErrsAt V e0 e1 e2 e3 → Calls Tryd.prog 48 #[.bool true, .bool true, .bool true] V fun e w' => e = .returned .nilIface ∧ V = w') := Lib.hid (fun V h => refusal_any h true true true)
  have HLO : Hid (∀ V, WinsAt V sv ws → Calls Tryd.prog 58 #[.agg (roomC wd hg sv), .float .f32 le] V fun e w' => e = .returned (.agg (u16s (litN P W (W * H)))) ∧ Below V.heap.size V w') := by
    have ok := okRm_get hv
    rw [hwd, hhg] at ok
    rw [hwd, hhg]
    exact fun V h => litOf_any W H hW hH sv ws ok hwf g hgd le P hP V h
  have HW := Lib.hid hws
  have HX := Lib.hid hE
  have LM := Lib.hid (litN_len P W (W * H))
  have hn := fun w => run_neq_nil_nil (P := Tryd.prog) (w := w) 88 (by kernel_rfl)
  clear hws hE hv hwf hgd hwd hhg hP hn2
  generalize litN P W (W * H) = lt at *
  go_enter Tryd.func19, Tryd.ntmps19
  go_upto_region 1 with (fail)
  refine abs_world (fun V => V.heap[w.heap.size]? = some (.cells (roomC wd hg sv) 34 (0, 0)) ∧ V.heap[w.heap.size + 1]? = some (.cells (u16s zU) 42 (0, 0)) ∧ Below w.heap.size w V) (two_at w (.cells (roomC wd hg sv) 34) (.cells (u16s zU) 42)) ?_
  rintro V ⟨h0, h1, hb⟩
  have H0 := Lib.hid h0
  have H1 := Lib.hid h1
  have HV := Lib.hid (wins_below HW.out hb)
  replace HX := Lib.hid (errs_below HX.out hb)
  have n01 : w.heap.size < w.heap.size + 1 := by omega
  have hle1 : w.heap.size ≤ w.heap.size + 1 := by omega
  generalize w.heap.size + 1 = b1 at *
  clear h0 h1
  go_wp2_with (first | (refine wpList_load_part rfl 34 _ rfl w.heap.size 0 3 rfl 34 (roomC wd hg sv) (0, 0) _ H0.out Tryd.underlying34 rfl info_room (room_fits _ _ _) _ (room_all _ _ _) ?_) | (go_at_call 49; refine (HVR.out _ HV.out).mono ?_; rintro e W1 ⟨rfl, hb1⟩; replace H0 := Lib.hid (below_row hb1 H0.out); replace H1 := Lib.hid (below_row hb1 H1.out); replace HV := Lib.hid (wins_below HV.out hb1); replace HX := Lib.hid (errs_below HX.out hb1); replace hb := hb.trans (hb1.mono hb.size); clear hb1) | (go_at_call 57; refine (HNM.out _).mono ?_; rintro e w' ⟨rfl, rfl⟩) | (go_at_call 48; refine (HRF.out _ HX.out).mono ?_; rintro e W3 ⟨rfl, rfl⟩) | (go_at_call 58; refine (HLO.out _ HV.out).mono ?_; rintro e W1 ⟨rfl, hb1⟩; replace H0 := Lib.hid (below_row hb1 H0.out); replace H1 := Lib.hid (below_row hb1 H1.out); replace HV := Lib.hid (wins_below HV.out hb1); replace HX := Lib.hid (errs_below HX.out hb1); replace hb := hb.trans (hb1.mono hb.size); clear hb1) | (refine wpList_store_part rfl 42 _ _ rfl b1 0 (u16s lt) rfl rfl 42 (u16s zU) H1.out (by rw [u16s_size, LM.out]; exact info_u16) (by rw [u16s_size, u16s_size, LM.out, zU_len]; decide) (u16s_one _) ?_; rw [laid_allwE _ _ (by rw [u16s_size, u16s_size, LM.out, zU_len])]))
  refine bodyPost_ret (results_lit rfl _ _ b1 lt LM.out rfl (setRow_heap _ _ _ _ _ _ H1.out)) rfl ?_
  exact ⟨rfl, below_setRow hb hle1 _⟩

end Go.Proofs.YtdccmdcgbembpaaDoor

namespace Go.Proofs.YtdccmdcgbembpaaDoor
open Go.RowKit

attribute [local go_sem] run_store_f

theorem results_rm {fn : Func} {p u : Tmp} (h : fn.results = #[.cell p 34, .tmp u]) (tmps : Array Value) (w : World) (g : Nat) (wd hg : Int) (v : Value) (hp : tmps.getD p undef = .pointer (some ⟨g, 0, none⟩)) (hgr : w.heap[g]? = some (.cells (roomC wd hg v) 34 (0, 0))) :
    (results fn tmps).run Tryd.prog w = .ok (.tuple #[.agg (roomC wd hg v), tmps.getD u undef]) w := by
  have e := run_loadVar_row w g 34 34 (roomC wd hg v) (0, 0) _ hgr Tryd.underlying34 rfl info_room
  have e0 : (results fn tmps).run Tryd.prog w =
      ((asAddr (tmps.getD p undef)).run Tryd.prog w).andThen fun a w₁ => ((loadVar 34 a).run Tryd.prog w₁).andThen fun x w₂ => .ok (.tuple #[x, tmps.getD u undef]) w₂ := by
    simp only [results, h]
    simp [Sem.run_bind, Result.andThen]
  rw [e0, hp]
  simp only [asAddr, Sem.run_pure, Result.andThen_ok, e]

theorem room_oneN (wd hg : Int) : ∀ u ∈ roomC wd hg (.slice none 0 0), u.oneCell' = true := by
  intro u hu
  simp only [roomC, List.mem_toArray, List.mem_cons, List.not_mem_nil, or_false] at hu
  rcases hu with rfl | rfl | rfl <;> rfl

theorem room_oneQ (wd hg : Int) {W : World} {b : Nat} {v : Value} {ws : List Wn} (h : OwnQ W b v ws) : ∀ u ∈ roomC wd hg v, u.oneCell' = true := by
  rcases h with ⟨rfl, _⟩ | ⟨g, cap, cur, rfl, _⟩
  · exact room_oneN wd hg
  · exact room_oneS wd hg _ _ _

set_option maxRecDepth 100000 in
theorem enterMir (args : Array Value) (w : World) : (callFunc 86 args).run Tryd.prog w = .ok (.enter 86 args) w := by
  first | kernel_rfl | rfl | simp [callFunc]

set_option maxRecDepth 100000 in
set_option maxHeartbeats 4000000 in
theorem iMr_n (wd hg : Int) (sv : Value) (ws : List Wn) (e0 e1 e2 e3 : Addr) (w : World) (hws : WinsAt w sv ws) (hE : ErrsAt w e0 e1 e2 e3) (hv : okRm wd hg ws = false) :
    Calls Tryd.prog 37 #[.agg (roomC wd hg sv)] w fun e w' => e = .returned (.tuple #[.agg (roomC 0 0 (.slice none 0 0)), .int .i64 1]) ∧ Below w.heap.size w w' := by
  have HVR : Hid (∀ V, WinsAt V sv ws → Calls Tryd.prog 49 #[.agg (roomC wd hg sv)] V fun e w' => e = .returned (.bool false) ∧ Below V.heap.size V w') := Lib.hid (fun V h => by have := ValidRoom_any wd hg sv ws V h; rw [hv] at this; exact this)
  have HRF : Hid (∀ V, ErrsAt V e0 e1 e2 e3 → Calls Tryd.prog 48 #[.bool false, .bool true, .bool true] V fun e w' => e = .returned (.iface 211 (.pointer (some e0))) ∧ V = w') := Lib.hid (fun V h => refusal_any h false true true)
  have hn := fun w => run_neq_held_nil (P := Tryd.prog) (w := w) 88 211 (.pointer (some e0)) (by kernel_rfl)
  have HW := Lib.hid hws
  have HX := Lib.hid hE
  clear hws hE hv
  go_enter Tryd.func37, Tryd.ntmps37
  go_upto_region 1 with (fail)
  refine abs_world (fun W => W.heap[w.heap.size]? = some (.cells (roomC wd hg sv) 34 (0, 0)) ∧ W.heap[w.heap.size + 1]? = some (.cells (roomC 0 0 (.slice none 0 0)) 34 (0, 0)) ∧ Below w.heap.size w W) (two_at w (.cells (roomC wd hg sv) 34) (.cells (roomC 0 0 (.slice none 0 0)) 34)) ?_
  rintro W ⟨h0, h1, hbz⟩
  have n01 : w.heap.size < w.heap.size + 1 := by omega
  generalize w.heap.size + 1 = b1 at *
  have H0 := Lib.hid h0
  have H1 := Lib.hid h1
  have HV := Lib.hid (wins_below HW.out hbz)
  replace HX := Lib.hid (errs_below HX.out hbz)
  clear h0 h1
  go_wp2_with (first | (refine wpList_load_part rfl 34 _ rfl w.heap.size 0 3 rfl 34 (roomC wd hg sv) (0, 0) _ H0.out Tryd.underlying34 rfl info_room (room_fits _ _ _) _ (room_all _ _ _) ?_) | (go_at_call 49; refine (HVR.out _ HV.out).mono ?_; rintro e W1 ⟨rfl, hb1⟩; replace H0 := Lib.hid (below_row hb1 H0.out); replace H1 := Lib.hid (below_row hb1 H1.out); replace HV := Lib.hid (wins_below HV.out hb1); replace hbz := hbz.trans (hb1.mono hbz.size); replace HX := Lib.hid (errs_below HX.out hb1); clear hb1) | (go_at_call 48; refine (HRF.out _ HX.out).mono ?_; rintro e W3 ⟨rfl, rfl⟩) | (go_at_call 50; refine (codeOf_any HX.out 1).mono ?_; rintro e W4 ⟨rfl, rfl⟩) | (refine wpList_buildRR rfl 34 _ rfl _ rfl [] rfl (roomC 0 0 (.slice none 0 0)) built_room0 ?_) | (refine wpList_store_part rfl 34 _ _ rfl b1 0 (roomC 0 0 (.slice none 0 0)) rfl rfl 34 _ H1.out info_room (Nat.le_refl _) (room_oneN _ _) ?_; rw [laid_allr _ _ (by rfl)]))
  refine bodyPost_ret (results_rm rfl _ _ b1 0 0 (.slice none 0 0) rfl (setRow_heap _ _ _ _ _ _ H1.out)) rfl ?_
  exact ⟨rfl, below_setRow hbz (by omega) _⟩

set_option maxRecDepth 100000 in
set_option maxHeartbeats 4000000 in
theorem iMr_y (wd hg : Int) (sv : Value) (ws : List Wn) (ok : RmOk wd hg ws) (hwf : ∀ x ∈ ws, WnWf x) (e0 e1 e2 e3 : Addr) (w : World) (hws : WinsAt w sv ws) (hE : ErrsAt w e0 e1 e2 e3) (hv : okRm wd hg ws = true) :
    Calls Tryd.prog 37 #[.agg (roomC wd hg sv)] w fun e w' => (∃ v, e = .returned (.tuple #[.agg (roomC wd hg v), .int .i64 0]) ∧ OwnQ w' w.heap.size v (ws.map (mirW wd))) ∧ Below w.heap.size w w' := by
  have HVR : Hid (∀ V, WinsAt V sv ws → Calls Tryd.prog 49 #[.agg (roomC wd hg sv)] V fun e w' => e = .returned (.bool true) ∧ Below V.heap.size V w') := Lib.hid (fun V h => by have := ValidRoom_any wd hg sv ws V h; rw [hv] at this; exact this)
  have HRF : Hid (∀ V, ErrsAt V e0 e1 e2 e3 → Calls Tryd.prog 48 #[.bool true, .bool true, .bool true] V fun e w' => e = .returned .nilIface ∧ V = w') := Lib.hid (fun V h => refusal_any h true true true)
  have hn := fun w => run_neq_nil_nil (P := Tryd.prog) (w := w) 88 (by kernel_rfl)
  have HWW : Hid (∀ V, V.heap[w.heap.size]? = some (.cells (roomC wd hg sv) 34 (0, 0)) → WinsAt V sv ws → Calls Tryd.prog 71 #[.agg (roomC wd hg sv), .func (.func 86) #[] #[.pointer (some ⟨w.heap.size, 0, none⟩)]] V fun e w' => (∃ v, e = .returned (.agg (roomC wd hg v)) ∧ OwnW w' V.heap.size v (ws.map (mirW wd))) ∧ Below V.heap.size V w') := Lib.hid (fun V h0 h => withWindows_any wd hg sv ws ok.len 86 enterMir #[.pointer (some ⟨w.heap.size, 0, none⟩)] (mirW wd) (fun W => W.heap[w.heap.size]? = some (.cells (roomC wd hg sv) 34 (0, 0))) V h (fun W hb => below_row hb h0) (fun x W hx hc => mirF_any wd hg sv x (fit_get (hwf x hx) (ok.all x hx)) ok.w0 ok.w1 w.heap.size W hc))
  have HW := Lib.hid hws
  have HX := Lib.hid hE
  generalize ws.map (mirW wd) = wm at *
  clear hws hE hv hwf ok
  go_enter Tryd.func37, Tryd.ntmps37
  go_upto_region 1 with (fail)
  refine abs_world (fun W => W.heap[w.heap.size]? = some (.cells (roomC wd hg sv) 34 (0, 0)) ∧ W.heap[w.heap.size + 1]? = some (.cells (roomC 0 0 (.slice none 0 0)) 34 (0, 0)) ∧ Below w.heap.size w W) (two_at w (.cells (roomC wd hg sv) 34) (.cells (roomC 0 0 (.slice none 0 0)) 34)) ?_
  rintro W ⟨h0, h1, hbz⟩
  have n01 : w.heap.size < w.heap.size + 1 := by omega
  generalize w.heap.size + 1 = b1 at *
  have H0 := Lib.hid h0
  have H1 := Lib.hid h1
  have HV := Lib.hid (wins_below HW.out hbz)
  replace HX := Lib.hid (errs_below HX.out hbz)
  clear h0 h1
  go_wp2_with (first | (refine wpList_load_part rfl 34 _ rfl w.heap.size 0 3 rfl 34 (roomC wd hg sv) (0, 0) _ H0.out Tryd.underlying34 rfl info_room (room_fits _ _ _) _ (room_all _ _ _) ?_) | (go_at_call 49; refine (HVR.out _ HV.out).mono ?_; rintro e W1 ⟨rfl, hb1⟩; replace H0 := Lib.hid (below_row hb1 H0.out); replace H1 := Lib.hid (below_row hb1 H1.out); replace HV := Lib.hid (wins_below HV.out hb1); replace hbz := hbz.trans (hb1.mono hbz.size); replace HX := Lib.hid (errs_below HX.out hb1); clear hb1) | (go_at_call 48; refine (HRF.out _ HX.out).mono ?_; rintro e W3 ⟨rfl, rfl⟩) | (go_at_call 71; have hlc := row_lt H1.out; have hlz := hbz.size; refine (HWW.out _ H0.out HV.out).mono ?_; rintro e W5 ⟨⟨v5, rfl, hv5⟩, hb5⟩; have HV5 := Lib.hid hv5; clear hv5; replace H0 := Lib.hid (below_row hb5 H0.out); replace H1 := Lib.hid (below_row hb5 H1.out); replace HV := Lib.hid (wins_below HV.out hb5); replace hbz := hbz.trans (hb5.mono hbz.size); clear hb5) | (refine wpList_store_part rfl 34 _ _ rfl b1 0 (roomC wd hg v5) rfl rfl 34 _ H1.out info_room (Nat.le_refl _) (room_oneQ _ _ (ownQ_ofW HV5.out)) ?_; rw [laid_allr _ _ (by rfl)]))
  have hl5 := row_lt H1.out
  refine bodyPost_ret (results_rm rfl _ _ b1 wd hg v5 rfl (setRow_heap _ _ _ _ _ _ H1.out)) rfl ?_
  refine ⟨⟨_, rfl, ?_⟩, below_setRow hbz (by omega) _⟩
  obtain ⟨g, cur, rfl, k2, k3, k4, k5, k6⟩ := HV5.out
  exact .inr ⟨g, wm.length, cur, rfl, by omega, (setRow_other _ _ _ _ (by omega)).trans k3, Nat.le_refl _, by unfold maxLen; omega, by omega, k6⟩

end Go.Proofs.YtdccmdcgbembpaaDoor

namespace Go.Proofs.YtdccmdcgbembpaaDoor
open Go.ChangeShapes Go.WideShapes Go.ChangeAt Go.RowKit

set_option maxRecDepth 100000 in
theorem law_own : ownKnob Tryd.prog.godebug = none := by kernel_rfl
set_option maxRecDepth 100000 in
theorem law_laidOut : laidOutB Tryd.prog = true := by kernel_rfl

theorem trodAll_below {H : Type} {enc : TypeId × Value → H} {P : Program} (hl : laidOutB P = true) {W W' : World} (hb : Below W.heap.size W W') :
    ∀ (ts : List TypeId) (vs : List Value) (ds : List (DataW H)) (ps : List MemPlace), (∀ t ∈ ts, P.readableRec t = true ∧ t < P.types.size) →
      DataW.TrodAll enc P W 0 (fun _ => true) true ts vs ds ps → (∀ x ∈ ps, x.block < W.heap.size) → DataW.TrodAll enc P W' 0 (fun b => decide (b < W.heap.size)) true ts vs ds ps
  | [], vs, ds, ps, _, h, _ => by
    obtain ⟨rfl, rfl, rfl⟩ := trodAll_nil h
    exact trodAll_mk0
  | t :: ts, vs, ds, ps, hr, h, hlt => by
    obtain ⟨v, vs', d, ds', p, q, rfl, rfl, rfl, h0, r0⟩ := trodAll_cons h
    have ht := hr t (by simp)
    exact trodAll_cons_mk (Below.trod hl ht.1 ht.2 h0 hb (fun x hx => hlt x (by simp [hx]))) (trodAll_below hl hb ts vs' ds' q (fun t ht => hr t (by simp [ht])) r0 (fun x hx => hlt x (by simp [hx])))

set_option maxRecDepth 100000 in
theorem law_lifted (F : FuncId) (fn : Func) (s : ChangeSpec) (conds : List PathCond) (os : Os) (started : os.Started) (H : Type) (enc : TypeId × Value → H)
    (hno : Tryd.checked.prog.inits.idxOf? F = none) (hfn : Tryd.checked.prog.funcs[F]? = some fn) (hv : s.vars = []) (hr : fn.resultTypes = #[4])
    (hts : ∀ t ∈ fn.params.toList, Tryd.prog.readableRec t = true ∧ t < Tryd.prog.types.size)
    (hspec : ∀ ds : List (DataW H), ds.length = fn.params.size → s.fn H (ds ++ []) = { results := [.lit (.bool true)], args := ds })
    (wit : ∃ (w : World) (tape : Tape) (i : Input), w.os = os ∧ (w.forCall tape i).Shaped Tryd.checked.prog ∧ i.vars = [] ∧ Input.okWide Tryd.checked.prog (w.forCall tape i) .any w.heap.size F i ∧
      s.pre6 enc Tryd.checked.prog fn conds false (w.forCall tape i).memory i.args ∧ ({} : Assume).holds Tryd.checked.prog (lone (Frame.enter Tryd.checked.prog F i.args .normal) [] (w.forCall tape i)))
    (walk : ∀ (W : World) (base : Nat) (args : Array Value) (ds : List (DataW H)) (p : List MemPlace),
      (∀ (j : Nat) t v, fn.params[j]? = some t → args[j]? = some v → Value.okWide Tryd.prog W .any base t v) →
      DataW.TrodAll enc Tryd.prog W 0 (fun _ => true) true fn.params.toList args.toList ds p →
      Calls Tryd.prog F args W fun e W' => e = .returned (.bool true) ∧ Below W.heap.size W W') :
    ReturnsInHanded {} Tryd.checked os F .any (s.pre6 enc Tryd.prog fn conds false) (s.post enc Tryd.prog fn false true false false) := by
  refine returnsInHanded_of_change (C := Tryd.checked) law_own started hno hfn wit ?_
  intro W base args ds gs before hval0 hW hcnd _
  have hW' := hW
  obtain ⟨p, q, hA0, hV, rfl, hfz, hnd⟩ := hW
  rw [hv] at hV
  obtain ⟨rfl, rfl⟩ := trodVars_none hV
  have hlen : ds.length = fn.params.size := by
    have key : ∀ (ts : List TypeId) (vs : List Value) (ds : List (DataW H)) (ps : List MemPlace), DataW.TrodAll enc Tryd.checked.prog W 0 (fun _ => true) true ts vs ds ps → ds.length = ts.length := by
      intro ts
      induction ts with
      | nil => intro vs ds ps h; obtain ⟨_, rfl, _⟩ := trodAll_nil h; rfl
      | cons t ts ih => intro vs ds ps h; obtain ⟨v, vs', d, ds', p, q, _, rfl, _, _, r0⟩ := trodAll_cons h; simp [ih _ _ _ r0]
    simpa using key _ _ _ _ hA0
  refine (walk W base args ds p hval0 hA0).mono fun e W' ⟨he, hg⟩ => ?_
  subst he
  have hlt : ∀ x ∈ p, x.block < W.heap.size := fun x hx => hW'.lt x (by simp [hx])
  refine ⟨_, rfl, _, _, _, [], p, [], hW', ?_, ?_, ?_, hg.frame _, fun h => by cases h⟩
  · rw [hspec ds hlen, hr]
    exact trodAll_mk1 (shut_bool Tryd.underlying4 _)
  · rw [hspec ds hlen]
    exact trodAll_below law_laidOut hg _ _ _ _ hts hA0 hlt
  · rw [hspec ds hlen, hv]
    rfl

end Go.Proofs.YtdccmdcgbembpaaDoor

namespace Go.Proofs.YtdccmdcgbembpaaDoor
open Go.ChangeShapes Go.WideShapes Go.ChangeAt Go.RowKit

set_option maxRecDepth 100000 in
theorem door_met (os : Os) (args : Array Value) : laidMetH Tryd.prog lst ((World.doorLaid Tryd.prog 200 os).forCall (fun _ _ => 0) ⟨#[], args, []⟩).memory :=
  laidMetH_of_parts3 (fuel := 8) (laidMet_of_run' 8 (by kernel_rfl) (by kernel_rfl)) (by kernel_rfl) (by kernel_rfl)

set_option maxRecDepth 100000 in
theorem door_shaped (os : Os) : (World.doorLaid Tryd.prog 200 os).Shaped Tryd.prog := World.shaped_of_RefB (by kernel_rfl) (by kernel_rfl)

/-- The condition of a row that lists the sentinels. -/
abbrev Met (w : World) (_ : Array Value) : Prop := laidMetH Tryd.prog lst w

set_option maxRecDepth 100000 in
theorem law_liftedC (F : FuncId) (fn : Func) (s : ChangeSpec) (conds : List PathCond) (os : Os) (started : os.Started) (H : Type) (enc : TypeId × Value → H)
    (hno : Tryd.checked.prog.inits.idxOf? F = none) (hfn : Tryd.checked.prog.funcs[F]? = some fn) (hv : varsRowed Tryd.prog s.vars = true) (hvl : s.vars.length = 4) (hr : fn.resultTypes = #[4])
    (hts : ∀ t ∈ fn.params.toList, Tryd.prog.readableRec t = true ∧ t < Tryd.prog.types.size)
    (hspec : ∀ ds gs : List (DataW H), ds.length = fn.params.size → gs.length = 4 → s.fn H (ds ++ gs) = { results := [.lit (.bool true)], args := ds, vars := gs })
    (wit : ∃ (w : World) (tape : Tape) (i : Input), w.os = os ∧ (w.forCall tape i).Shaped Tryd.checked.prog ∧ i.vars = [] ∧ Input.okWide Tryd.checked.prog (w.forCall tape i) .any w.heap.size F i ∧
      ((s.pre enc Tryd.checked.prog fn conds false (w.forCall tape i).memory i.args ∧ Met (w.forCall tape i).memory i.args) ∧ sizedMet enc Tryd.checked.prog fn (OpenSpec.ofChange s) false (w.forCall tape i).memory i.args) ∧ ({} : Assume).holds Tryd.checked.prog (lone (Frame.enter Tryd.checked.prog F i.args .normal) [] (w.forCall tape i)))
    (walk : ∀ (W : World) (base : Nat) (args : Array Value) (ds : List (DataW H)) (p : List MemPlace),
      (∀ (j : Nat) t v, fn.params[j]? = some t → args[j]? = some v → Value.okWide Tryd.prog W .any base t v) →
      DataW.TrodAll enc Tryd.prog W 0 (fun _ => true) true fn.params.toList args.toList ds p → laidMetH Tryd.prog lst W →
      Calls Tryd.prog F args W fun e W' => e = .returned (.bool true) ∧ Below W.heap.size W W') :
    ReturnsInHanded {} Tryd.checked os F .any (fun w args => (s.pre enc Tryd.prog fn conds false w args ∧ laidMetH Tryd.prog lst w) ∧ sizedMet enc Tryd.prog fn (OpenSpec.ofChange s) false w args) (s.post enc Tryd.prog fn false true false false) := by
  refine returnsInHanded_of_change_and (C := Tryd.checked) (X := Met) (fun _ _ _ hh h => h.of_heap hh) law_own started hno hfn wit ?_
  intro W base args ds gs before hval0 hW hcnd _ hL _
  have hW' := hW
  obtain ⟨p, q, hA0, hV, rfl, hfz, hnd⟩ := hW
  have hgl : gs.length = 4 := by
    have key : ∀ (ns : List String) (gs : List (DataW H)) (ps : List MemPlace), DataW.TrodVars enc Tryd.checked.prog W (fun _ => true) ns gs ps → gs.length = ns.length := by
      intro ns
      induction ns with
      | nil => intro gs ps h; obtain ⟨rfl, _⟩ := trodVars_none h; rfl
      | cons n ns ih =>
        intro gs ps h
        cases gs with
        | nil => exact h.elim
        | cons d ds => obtain ⟨_, _, _, _, _, _, _, _, _, _, hs, _⟩ := h; simp [ih _ _ hs]
    rw [key _ _ _ hV, hvl]
  have hlen : ds.length = fn.params.size := by
    have key : ∀ (ts : List TypeId) (vs : List Value) (ds : List (DataW H)) (ps : List MemPlace), DataW.TrodAll enc Tryd.checked.prog W 0 (fun _ => true) true ts vs ds ps → ds.length = ts.length := by
      intro ts
      induction ts with
      | nil => intro vs ds ps h; obtain ⟨_, rfl, _⟩ := trodAll_nil h; rfl
      | cons t ts ih => intro vs ds ps h; obtain ⟨v, vs', d, ds', p, q, _, rfl, _, _, r0⟩ := trodAll_cons h; simp [ih _ _ _ r0]
    simpa using key _ _ _ _ hA0
  refine (walk W base args ds p hval0 hA0 hL).mono fun e W' ⟨he, hg⟩ => ?_
  subst he
  have hlt : ∀ x ∈ p, x.block < W.heap.size := fun x hx => hW'.lt x (by simp [hx])
  refine ⟨_, rfl, _, _, _, [], p, q, hW', ?_, ?_, ?_, hg.frame _, fun h => by cases h⟩
  · rw [hspec ds gs hlen hgl, hr]
    exact trodAll_mk1 (shut_bool Tryd.underlying4 _)
  · rw [hspec ds gs hlen hgl]
    exact trodAll_below law_laidOut hg _ _ _ _ hts hA0 hlt
  · rw [hspec ds gs hlen hgl]
    exact Below.trodVars law_laidOut hg hv hV

end Go.Proofs.YtdccmdcgbembpaaDoor

namespace Go.Proofs.YtdccmdcgbembpaaDoor
open Go.ChangeShapes Go.WideShapes Go.ChangeAt Go.RowKit Go.Deep Go.Joins

attribute [local go_sem] run_store_f

set_option maxRecDepth 100000 in
set_option maxHeartbeats 16000000 in
theorem lawDw_core (wd hg : Int) (sv : Value) (ws : List Wn) (ad ah : Int) (wq : List Wn) (hq : wq.length ≤ 12) (v1 : Int) (ix : Int) (pt : Nat) (e0 e1 e2 e3 : Addr)
    (hS : ∀ (s : Value) (W : World) (lo : Nat), OwnW W lo s ws → Calls Tryd.prog 29 #[.agg (roomC wd hg s), .int .i64 ix, .float .f32 pt] W fun e w' => (∃ v, e = .returned (.tuple #[.agg (roomC ad ah v), .int .i64 v1]) ∧ OwnQ w' W.heap.size v wq) ∧ Below W.heap.size W w')
    (hI : ∀ (s : Value) (W : World), WinsAt W s ws → ErrsAt W e0 e1 e2 e3 → Calls Tryd.prog 30 #[.agg (roomC wd hg s), .int .i64 ix, .float .f32 pt] W fun e w' => (∃ v, e = .returned (.tuple #[.agg (roomC ad ah v), .int .i64 v1]) ∧ OwnQ w' W.heap.size v wq) ∧ Below W.heap.size W w')
    (w : World) (hws : WinsAt w sv ws) (hE : ErrsAt w e0 e1 e2 e3) :
    Calls Tryd.prog 7 #[.agg (roomC wd hg sv), .int .i64 ix, .float .f32 pt] w fun e w' => e = .returned (.bool true) ∧ Below w.heap.size w w' := by
  have HA := Lib.hid hws
  have HX := Lib.hid hE
  have HA0 := Lib.hid hws
  have HX0 := Lib.hid hE
  have HS := Lib.hid hS
  have HI := Lib.hid hI
  have zc : (v1 != v1) = false := by simp
  have hsv := hws
  obtain ⟨a0, cap0, esv, hl1, hl2, _⟩ := hsv
  unfold maxLen at hl2
  have HZ := Lib.hid (fun w => szRoom_any wd hg a0 ws.length cap0 1048576 (by omega) (by decide) (by decide) w)
  rw [← esv] at HZ
  have hlr : (leftI ws.length 1048576 < 0 ∧ 1048576 < ws.length) ∨ (0 ≤ leftI ws.length 1048576 ∧ ws.length ≤ 1048576) := by unfold leftI; split <;> omega
  clear hws esv hl1 hl2 hE hS hI
  generalize leftI (ws.length : Int) 1048576 = lf at *
  go_enter Tryd.func7, Tryd.ntmps7
  go_upto_region 1 with (fail)
  refine abs_world (fun W => W.heap[w.heap.size]? = some (.cells (roomC wd hg sv) 25 (0, 0)) ∧ Below w.heap.size w W) ⟨heap_alloc_new _ _, (Below.refl _ _).alloc (Nat.le_refl _) _⟩ ?_
  rintro W ⟨h0, hb⟩
  have H0 := Lib.hid h0
  replace HA := Lib.hid (wins_below HA.out hb)
  replace HX := Lib.hid (errs_below HX.out hb)
  clear h0
  rcases hlr with ⟨hlf, _⟩ | ⟨hlf, hlen⟩
  · go_wp2_with (first | (refine wpList_load_part rfl 25 _ rfl w.heap.size 0 3 rfl 25 (roomC wd hg sv) (0, 0) _ H0.out Tryd.underlying25 rfl info_roomL (room_fits _ _ _) _ (room_all _ _ _) ?_) | (go_at_call 11; refine (HZ.out _).mono ?_; rintro e W1 ⟨rfl, hb1⟩; replace H0 := Lib.hid (below_row hb1 H0.out); replace HA := Lib.hid (wins_below HA.out hb1); replace HX := Lib.hid (errs_below HX.out hb1); replace hb := hb.trans (hb1.mono hb.size); clear hb1))
    go_ret
    exact ⟨rfl, hb⟩
  · obtain ⟨k6, hk6⟩ : ∃ k6 : Int, k6 = 1 + 3 * (ws.length : Int) := ⟨_, rfl⟩
    obtain ⟨k7, hk7⟩ : ∃ k7 : Int, k7 = 1 + 3 * (wq.length : Int) := ⟨_, rfl⟩
    have hz6 : ¬ k6 < 0 := by omega
    have hz7 : ¬ k7 < 0 := by omega
    have hz6d : decide (k6 < 0) = false := decide_eq_false hz6
    have hz7d : decide (k7 < 0) = false := decide_eq_false hz7
    have hz7b : (k7 != k7) = false := by simp
    have HMK6 : Hid (∀ (v : Value) (lo : Nat) (V : World), OwnQ V lo v ws → Calls Tryd.prog 31 #[.agg (roomC wd hg v), .int .i64 1] V fun e w' => e = .returned (.int .i64 k6) ∧ MarkedQ w' v ws.length ∧ KeptBut V w' v ∧ (lo ≤ V.heap.size → Below lo V w')) := Lib.hid (by rw [hk6]; exact fun v lo V h => markRoomQ wd hg lo v ws hlen V h)
    have HMK7 : Hid (∀ (v : Value) (lo : Nat) (V : World), OwnQ V lo v wq → Calls Tryd.prog 31 #[.agg (roomC ad ah v), .int .i64 1] V fun e w' => e = .returned (.int .i64 k7) ∧ MarkedQ w' v wq.length ∧ KeptBut V w' v ∧ (lo ≤ V.heap.size → Below lo V w')) := Lib.hid (by rw [hk7]; exact fun v lo V h => markRoomQ ad ah lo v wq (by omega) V h)
    have HHD : Hid (∀ (v : Value) (V : World), MarkedQ V v wq.length → Calls Tryd.prog 32 #[.agg (roomC ad ah v), .int .i64 1] V fun e w' => e = .returned (.int .i64 k7) ∧ Below V.heap.size V w') := Lib.hid (by rw [hk7]; exact fun v V h => heldRoomQ ad ah v wq.length (by omega) V h)
    clear hk6 hk7
    go_upto_region 6 with (first | (refine wpList_load_part rfl 25 _ rfl w.heap.size 0 3 rfl 25 (roomC wd hg sv) (0, 0) _ H0.out Tryd.underlying25 rfl info_roomL (room_fits _ _ _) _ (room_all _ _ _) ?_) | (go_at_call 11; refine (HZ.out _).mono ?_; rintro e W1 ⟨rfl, hb1⟩; replace H0 := Lib.hid (below_row hb1 H0.out); replace HA := Lib.hid (wins_below HA.out hb1); replace HX := Lib.hid (errs_below HX.out hb1); replace hb := hb.trans (hb1.mono hb.size); clear hb1) | (go_at_call 13; have hl0c := row_lt H0.out; have hbz := hb.size; refine (toRoom_any wd hg sv ws hlen _ HA.out).mono ?_; rintro e W2 ⟨⟨v3, rfl, hv⟩, hb1⟩; have O3 := Lib.hid hv; clear hv; replace H0 := Lib.hid (below_row hb1 H0.out); replace HA := Lib.hid (wins_below HA.out hb1); replace HX := Lib.hid (errs_below HX.out hb1); replace hb := hb.trans (hb1.mono hb.size); clear hb1) | (go_at_call 29; have hlc := row_lt H0.out; refine (HS.out _ _ _ O3.out).mono ?_; rintro e W3 ⟨⟨v4, rfl, hv⟩, hb1⟩; have Q4 := Lib.hid hv; clear hv; replace H0 := Lib.hid (below_row hb1 H0.out); replace HA := Lib.hid (wins_below HA.out hb1); replace HX := Lib.hid (errs_below HX.out hb1); replace hb := hb.trans (hb1.mono hb.size); clear hb1) | (refine wpList_store_part rfl 34 _ _ rfl _ 0 (roomC ad ah v4) rfl rfl 34 _ (heap_alloc_new _ _) info_room (Nat.le_refl _) (room_oneQ _ _ Q4.out) ?_; rw [laid_allr _ _ (by rfl)]))
    have N4 : Hid (∀ j, Value.ownBlock v4 = some j → w.heap.size < j ∧ j < W3.heap.size) := Lib.hid (fun j hj => by have := ownQ_rng Q4.out j hj; omega)
    have hl34 := row_lt H0.out
    refine abs_world (fun X => X.heap[w.heap.size]? = some (.cells (roomC wd hg sv) 25 (0, 0)) ∧ X.heap[W3.heap.size]? = some (.cells (roomC ad ah v4) 34 (0, 0)) ∧ OwnQ X W2.heap.size v4 wq ∧ WinsAt X sv ws ∧ ErrsAt X e0 e1 e2 e3 ∧ Below w.heap.size w X) ⟨below_row (rwZ _ _ _) H0.out, setRow_heap _ _ _ _ _ _ (heap_alloc_new _ _), ownQ_below Q4.out (rwZ _ _ _), wins_below HA.out (rwZ _ _ _), errs_below HX.out (rwZ _ _ _), hb.trans ((rwZ _ _ _).mono hb.size)⟩ ?_
    clear H0 HA HX hb Q4 O3 HZ HS hbz hl0c
    generalize W3.heap.size = b4 at *
    generalize W2.heap.size = lo4 at *
    rintro Y ⟨h0, h4, q4, ha, hx, hb⟩
    have H0 := Lib.hid h0
    have R4 := Lib.hid h4
    have Q4 := Lib.hid q4
    have HA := Lib.hid ha
    have HX := Lib.hid hx
    clear h0 h4 q4 ha hx
    go_upto_region 7 with (first | (refine wpList_load_part rfl 25 _ rfl w.heap.size 0 3 rfl 25 (roomC wd hg sv) (0, 0) _ H0.out Tryd.underlying25 rfl info_roomL (room_fits _ _ _) _ (room_all _ _ _) ?_) | (go_at_call 13; have hl0c := row_lt H0.out; have hbz := hb.size; have hl4c := row_lt R4.out; refine (toRoom_any wd hg sv ws hlen _ HA.out).mono ?_; rintro e W2 ⟨⟨v6, rfl, hv⟩, hb1⟩; have hsz6 := hb1.size; have O6 := Lib.hid hv; clear hv; replace H0 := Lib.hid (below_row hb1 H0.out); replace HA := Lib.hid (wins_below HA.out hb1); replace HX := Lib.hid (errs_below HX.out hb1); replace R4 := Lib.hid (below_row hb1 R4.out); replace Q4 := Lib.hid (ownQ_below Q4.out hb1); replace hb := hb.trans (hb1.mono hb.size); clear hb1) | (refine wpList_store_part rfl 34 _ _ rfl _ 0 (roomC wd hg v6) rfl rfl 34 _ (heap_alloc_new _ _) info_room (Nat.le_refl _) (room_oneQ _ _ (ownQ_ofW O6.out)) ?_; rw [laid_allr _ _ (by rfl)]))
    have N6 : Hid (∀ j, Value.ownBlock v6 = some j → b4 < j ∧ j < W2.heap.size) := Lib.hid (fun j hj => by have := ownQ_rng (ownQ_ofW O6.out) j hj; omega)
    have hl46 := row_lt R4.out
    have hlo6 : b4 < Y.heap.size ∧ Y.heap.size ≤ W2.heap.size := ⟨hl4c, hsz6⟩
    refine abs_world (fun X => X.heap[w.heap.size]? = some (.cells (roomC wd hg sv) 25 (0, 0)) ∧ WinsAt X sv ws ∧ ErrsAt X e0 e1 e2 e3 ∧ X.heap[b4]? = some (.cells (roomC ad ah v4) 34 (0, 0)) ∧ OwnQ X lo4 v4 wq ∧ X.heap[W2.heap.size]? = some (.cells (roomC wd hg v6) 34 (0, 0)) ∧ OwnQ X Y.heap.size v6 ws ∧ Below w.heap.size w X) ⟨below_row (rwZ _ _ _) H0.out, wins_below HA.out (rwZ _ _ _), errs_below HX.out (rwZ _ _ _), below_row (rwZ _ _ _) R4.out, ownQ_below Q4.out (rwZ _ _ _), setRow_heap _ _ _ _ _ _ (heap_alloc_new _ _), ownQ_below (ownQ_ofW O6.out) (rwZ _ _ _), hb.trans ((rwZ _ _ _).mono hb.size)⟩ ?_
    clear H0 HA HX R4 Q4 O6 hl0c hbz hl4c hb
    generalize W2.heap.size = b6 at *
    generalize Y.heap.size = lo6 at *
    rintro Y2 ⟨h0, ha, hx, h4, q4, h6, q6, hb⟩
    have H0 := Lib.hid h0
    have HA := Lib.hid ha
    have HX := Lib.hid hx
    have R4 := Lib.hid h4
    have Q4 := Lib.hid q4
    have R6 := Lib.hid h6
    have Q6 := Lib.hid q6
    clear h0 ha hx h4 q4 h6 q6
    clear hsz6
    go_upto_region 8 with (first | (refine wpList_load_part rfl 34 _ rfl b6 0 3 rfl 34 (roomC wd hg v6) (0, 0) _ R6.out Tryd.underlying34 rfl info_room (room_fits _ _ _) _ (room_all _ _ _) ?_) | (go_at_call 30; have hl6c := row_lt R6.out; refine (HI.out _ _ (ownQ_at Q6.out) HX.out).mono ?_; rintro e W7 ⟨⟨v7, rfl, hv⟩, hb1⟩; have hsz7 := hb1.size; have Q7 := Lib.hid hv; clear hv; replace H0 := Lib.hid (below_row hb1 H0.out); replace HA := Lib.hid (wins_below HA.out hb1); replace HX := Lib.hid (errs_below HX.out hb1); replace R4 := Lib.hid (below_row hb1 R4.out); replace Q4 := Lib.hid (ownQ_below Q4.out hb1); replace R6 := Lib.hid (below_row hb1 R6.out); replace Q6 := Lib.hid (ownQ_below Q6.out hb1); replace hb := hb.trans (hb1.mono hb.size); clear hb1) | (refine wpList_store_part rfl 34 _ _ rfl _ 0 (roomC ad ah v7) rfl rfl 34 _ (heap_alloc_new _ _) info_room (Nat.le_refl _) (room_oneQ _ _ Q7.out) ?_; rw [laid_allr _ _ (by rfl)]))
    have N7 : Hid (∀ j, Value.ownBlock v7 = some j → b6 < j ∧ j < W7.heap.size) := Lib.hid (fun j hj => by have := ownQ_rng Q7.out j hj; omega)
    have hl67 := row_lt R6.out
    have hlo7 : Y2.heap.size ≤ W7.heap.size := hsz7
    refine abs_world (fun X => X.heap[w.heap.size]? = some (.cells (roomC wd hg sv) 25 (0, 0)) ∧ WinsAt X sv ws ∧ ErrsAt X e0 e1 e2 e3 ∧ X.heap[b4]? = some (.cells (roomC ad ah v4) 34 (0, 0)) ∧ OwnQ X lo4 v4 wq ∧ X.heap[b6]? = some (.cells (roomC wd hg v6) 34 (0, 0)) ∧ OwnQ X lo6 v6 ws ∧ X.heap[W7.heap.size]? = some (.cells (roomC ad ah v7) 34 (0, 0)) ∧ OwnQ X Y2.heap.size v7 wq ∧ Below w.heap.size w X) ⟨below_row (rwZ _ _ _) H0.out, wins_below HA.out (rwZ _ _ _), errs_below HX.out (rwZ _ _ _), below_row (rwZ _ _ _) R4.out, ownQ_below Q4.out (rwZ _ _ _), below_row (rwZ _ _ _) R6.out, ownQ_below Q6.out (rwZ _ _ _), setRow_heap _ _ _ _ _ _ (heap_alloc_new _ _), ownQ_below Q7.out (rwZ _ _ _), hb.trans ((rwZ _ _ _).mono hb.size)⟩ ?_
    clear H0 HA HX R4 Q4 R6 Q6 Q7 hb
    generalize W7.heap.size = b7 at *
    generalize Y2.heap.size = lo7 at *
    rintro Y3 ⟨h0, ha, hx, h4, q4, h6, q6, h7, q7, hb⟩
    have H0 := Lib.hid h0
    have HA := Lib.hid ha
    have HX := Lib.hid hx
    have R4 := Lib.hid h4
    have Q4 := Lib.hid q4
    have R6 := Lib.hid h6
    have Q6 := Lib.hid q6
    have R7 := Lib.hid h7
    have Q7 := Lib.hid q7
    clear h0 ha hx h4 q4 h6 q6 h7 q7
    clear hsz7
    go_upto_region 10 with (first | (refine wpList_load_part rfl 34 _ rfl b7 0 3 rfl 34 (roomC ad ah v7) (0, 0) _ R7.out Tryd.underlying34 rfl info_room (room_fits _ _ _) _ (room_all _ _ _) ?_) | (refine wpList_load_part rfl 34 _ rfl b4 0 3 rfl 34 (roomC ad ah v4) (0, 0) _ R4.out Tryd.underlying34 rfl info_room (room_fits _ _ _) _ (room_all _ _ _) ?_) | (go_at_call 17; refine (eqRoom_any ad ah v7 v4 wq _ (ownQ_at Q7.out) (ownQ_at Q4.out)).mono ?_; rintro e W8 ⟨rfl, hb1⟩; replace H0 := Lib.hid (below_row hb1 H0.out); replace HA := Lib.hid (wins_below HA.out hb1); replace HX := Lib.hid (errs_below HX.out hb1); replace R4 := Lib.hid (below_row hb1 R4.out); replace Q4 := Lib.hid (ownQ_below Q4.out hb1); replace R6 := Lib.hid (below_row hb1 R6.out); replace Q6 := Lib.hid (ownQ_below Q6.out hb1); replace R7 := Lib.hid (below_row hb1 R7.out); replace Q7 := Lib.hid (ownQ_below Q7.out hb1); replace hb := hb.trans (hb1.mono hb.size); clear hb1))
    refine wp_region_held_drew (S := (fun V => Below W8.heap.size W8 V)) (by kernel_rfl) ((Below.refl _ _).drew) (fun hHeld => ?_)
    refine take_op (i := 0) (d := 49) (v := .agg (roomC wd hg v6)) rfl rfl (by kernel_rfl) (by kernel_rfl) (by kernel_rfl) (fun _ _ _ h => h) (yields_row (by rfl) 34 (.tmp 10) (by rfl) b6 0 3 (by rfl) 34 (roomC wd hg v6) (0, 0) _ (fun _ h => below_row h R6.out) Tryd.underlying34 rfl info_room (room_fits _ _ _) (roomC wd hg v6) (room_all _ _ _)) hHeld ?_
    simp only [List.setIfInBounds_toArray, List.set_cons_zero, List.set_cons_succ]
    refine take_op (i := 1) (d := 50) (v := .agg (roomC wd hg sv)) rfl rfl (by kernel_rfl) (by kernel_rfl) (by kernel_rfl) (fun _ _ _ h => h) (yields_row (by rfl) 25 (.tmp 3) (by rfl) w.heap.size 0 3 (by rfl) 25 (roomC wd hg sv) (0, 0) _ (fun _ h => below_row h H0.out) Tryd.underlying25 rfl info_roomL (room_fits _ _ _) (roomC wd hg sv) (room_all _ _ _)) hHeld ?_
    simp only [List.setIfInBounds_toArray, List.set_cons_zero, List.set_cons_succ]
    refine wpAnyH_ready (rs := [2]) (by kernel_rfl) (by simp) ?_
    refine AllReadyH.cons rfl (fun K hK => ?_) AllReadyH.nil
    go_simp
    refine (toRoom_any wd hg sv ws hlen _ (wins_below HA.out hHeld)).mono ?_
    rintro e Wa ⟨⟨v9, rfl, hv9⟩, hb1⟩
    have HV9 := Lib.hid (ownW_at hv9)
    clear hv9
    refine hK.out _ _ (hHeld.trans (hb1.mono hHeld.size)) (fun hHeld2 => ?_)
    clear hK K
    replace hHeld := hHeld2
    clear hHeld2 hb1
    refine wpAnyH_ready (rs := [3]) (by kernel_rfl) (by simp) ?_
    refine AllReadyH.cons rfl (fun K hK => ?_) AllReadyH.nil
    go_simp
    refine (eqRoom_any wd hg v6 v9 ws _ (ownQ_at (ownQ_below Q6.out hHeld)) HV9.out).mono ?_
    rintro e Wb ⟨rfl, hb1⟩
    refine hK.out _ _ (hHeld.trans (hb1.mono hHeld.size)) (fun hHeld2 => ?_)
    clear hK K HV9
    replace hHeld := hHeld2
    clear hHeld2 hb1
    refine take_op (i := 4) (d := 53) (v := ?_) rfl rfl (by kernel_rfl) (by kernel_rfl) (by kernel_rfl) (fun _ _ _ h => h) (Or.inl ⟨by rfl, ?hy4e43⟩) hHeld ?rest4e43
    case hy4e43 =>
      intro w' hS'
      go_simp
      try with_reducible rfl
    simp only [List.setIfInBounds_toArray, List.set_cons_zero, List.set_cons_succ]
    refine wpAnyH_done (by kernel_rfl) ?_ _
    replace H0 := Lib.hid (below_row hHeld H0.out)
    replace HA := Lib.hid (wins_below HA.out hHeld)
    replace HX := Lib.hid (errs_below HX.out hHeld)
    replace R4 := Lib.hid (below_row hHeld R4.out)
    replace Q4 := Lib.hid (ownQ_below Q4.out hHeld)
    replace R6 := Lib.hid (below_row hHeld R6.out)
    replace Q6 := Lib.hid (ownQ_below Q6.out hHeld)
    replace R7 := Lib.hid (below_row hHeld R7.out)
    replace Q7 := Lib.hid (ownQ_below Q7.out hHeld)
    replace hb := hb.trans (hHeld.mono hb.size)
    clear hHeld
    go_upto_region 16 with (first | (refine wpList_load_part rfl 34 _ rfl b6 0 3 rfl 34 (roomC wd hg v6) (0, 0) _ R6.out Tryd.underlying34 rfl info_room (room_fits _ _ _) _ (room_all _ _ _) ?_) | (go_at_call 31; refine (HMK6.out _ _ _ Q6.out).mono ?_; rintro e W9 ⟨rfl, -, hkb, hbq⟩; replace H0 := Lib.hid (hkb _ _ _ _ H0.out (fun h => by have := N6.out _ h; omega)); replace R4 := Lib.hid (hkb _ _ _ _ R4.out (fun h => by have := N6.out _ h; omega)); replace Q4 := Lib.hid (ownQ_keep Q4.out hkb (fun j hj h => by have a := N4.out j hj; have b := N6.out j h; omega)); replace R7 := Lib.hid (hkb _ _ _ _ R7.out (fun h => by have := N6.out _ h; omega)); replace Q7 := Lib.hid (ownQ_keep Q7.out hkb (fun j hj h => by have a := N7.out j hj; have b := N6.out j h; omega)); replace hb := hb.trans ((hbq (by have := row_lt R6.out; omega)).mono (by omega)); replace HA := Lib.hid (wins_below HA0.out hb); replace HX := Lib.hid (errs_below HX0.out hb); clear hkb hbq R6 Q6) | (refine wpList_load_partG 34 _ rfl b7 0 3 rfl rfl 34 (roomC ad ah v7) (0, 0) _ R7.out Tryd.underlying34 rfl info_room (room_fits _ _ _) _ (room_all _ _ _) ?_) | (refine wpList_load_partG 34 _ rfl b4 0 3 rfl rfl 34 (roomC ad ah v4) (0, 0) _ R4.out Tryd.underlying34 rfl info_room (room_fits _ _ _) _ (room_all _ _ _) ?_) | (go_at_call 17; refine (eqRoom_any ad ah v7 v4 wq _ (ownQ_at Q7.out) (ownQ_at Q4.out)).mono ?_; rintro e W8 ⟨rfl, hb1⟩; replace H0 := Lib.hid (below_row hb1 H0.out); replace HA := Lib.hid (wins_below HA.out hb1); replace HX := Lib.hid (errs_below HX.out hb1); replace R4 := Lib.hid (below_row hb1 R4.out); replace Q4 := Lib.hid (ownQ_below Q4.out hb1); replace R7 := Lib.hid (below_row hb1 R7.out); replace Q7 := Lib.hid (ownQ_below Q7.out hb1); replace hb := hb.trans (hb1.mono hb.size); clear hb1))
    clear HMK6
    go_upto_region 18 with (first | (refine wpList_load_part rfl 34 _ rfl b7 0 3 rfl 34 (roomC ad ah v7) (0, 0) _ R7.out Tryd.underlying34 rfl info_room (room_fits _ _ _) _ (room_all _ _ _) ?_) | (go_at_call 31; refine (HMK7.out _ _ _ Q7.out).mono ?_; rintro e W10 ⟨rfl, hm7, hkb, hbq⟩; replace H0 := Lib.hid (hkb _ _ _ _ H0.out (fun h => by have := N7.out _ h; omega)); replace R4 := Lib.hid (hkb _ _ _ _ R4.out (fun h => by have := N7.out _ h; omega)); replace Q4 := Lib.hid (ownQ_keep Q4.out hkb (fun j hj h => by have a := N4.out j hj; have b := N7.out j h; omega)); have hl7v := row_lt R7.out; replace R7 := Lib.hid (hkb _ _ _ _ R7.out (fun h => by have := N7.out _ h; omega)); replace hb := hb.trans ((hbq (by omega)).mono (by omega)); replace HA := Lib.hid (wins_below HA0.out hb); replace HX := Lib.hid (errs_below HX0.out hb); clear hkb hbq Q7 hl7v; have M7 := Lib.hid hm7; clear hm7))
    clear HMK7
    go_upto_region 24 with (first | (refine wpList_load_part rfl 34 _ rfl b7 0 3 rfl 34 (roomC ad ah v7) (0, 0) _ R7.out Tryd.underlying34 rfl info_room (room_fits _ _ _) _ (room_all _ _ _) ?_) | (go_at_call 32; refine (HHD.out _ _ M7.out).mono ?_; rintro e W11 ⟨rfl, hb1⟩; replace H0 := Lib.hid (below_row hb1 H0.out); replace HA := Lib.hid (wins_below HA.out hb1); replace HX := Lib.hid (errs_below HX.out hb1); replace R4 := Lib.hid (below_row hb1 R4.out); replace Q4 := Lib.hid (ownQ_below Q4.out hb1); replace R7 := Lib.hid (below_row hb1 R7.out); replace M7 := Lib.hid (markedQ_below M7.out hb1); replace hb := hb.trans (hb1.mono hb.size); clear hb1))
    go_upto_region 25 with (first | (refine wpList_load_part rfl 25 _ rfl w.heap.size 0 3 rfl 25 (roomC wd hg sv) (0, 0) _ H0.out Tryd.underlying25 rfl info_roomL (room_fits _ _ _) _ (room_all _ _ _) ?_) | (go_at_call 13; have hl0c := row_lt H0.out; have hbz := hb.size; refine (toRoom_any wd hg sv ws hlen _ HA.out).mono ?_; rintro e W2 ⟨⟨v3, rfl, hv⟩, hb1⟩; have O3 := Lib.hid hv; clear hv; replace H0 := Lib.hid (below_row hb1 H0.out); replace HA := Lib.hid (wins_below HA.out hb1); replace HX := Lib.hid (errs_below HX.out hb1); replace R4 := Lib.hid (below_row hb1 R4.out); replace Q4 := Lib.hid (ownQ_below Q4.out hb1); replace R7 := Lib.hid (below_row hb1 R7.out); replace M7 := Lib.hid (markedQ_below M7.out hb1); replace hb := hb.trans (hb1.mono hb.size); clear hb1) | (go_at_call 30; skip; refine (HI.out _ _ (ownW_at O3.out) HX.out).mono ?_; rintro e W7 ⟨⟨v12, rfl, hv⟩, hb1⟩; have Q12 := Lib.hid hv; clear hv; replace H0 := Lib.hid (below_row hb1 H0.out); replace HA := Lib.hid (wins_below HA.out hb1); replace HX := Lib.hid (errs_below HX.out hb1); replace R4 := Lib.hid (below_row hb1 R4.out); replace Q4 := Lib.hid (ownQ_below Q4.out hb1); replace R7 := Lib.hid (below_row hb1 R7.out); replace M7 := Lib.hid (markedQ_below M7.out hb1); replace hb := hb.trans (hb1.mono hb.size); clear hb1) | (refine wpList_store_part rfl 34 _ _ rfl _ 0 (roomC ad ah v12) rfl rfl 34 _ (heap_alloc_new _ _) info_room (Nat.le_refl _) (room_oneQ _ _ Q12.out) ?_; rw [laid_allr _ _ (by rfl)]))
    refine abs_world (fun X => X.heap[w.heap.size]? = some (.cells (roomC wd hg sv) 25 (0, 0)) ∧ WinsAt X sv ws ∧ ErrsAt X e0 e1 e2 e3 ∧ X.heap[b4]? = some (.cells (roomC ad ah v4) 34 (0, 0)) ∧ OwnQ X lo4 v4 wq ∧ X.heap[b7]? = some (.cells (roomC ad ah v7) 34 (0, 0)) ∧ MarkedQ X v7 wq.length ∧ X.heap[W7.heap.size]? = some (.cells (roomC ad ah v12) 34 (0, 0)) ∧ OwnQ X W2.heap.size v12 wq ∧ Below w.heap.size w X) ⟨below_row (rwZ _ _ _) H0.out, wins_below HA.out (rwZ _ _ _), errs_below HX.out (rwZ _ _ _), below_row (rwZ _ _ _) R4.out, ownQ_below Q4.out (rwZ _ _ _), below_row (rwZ _ _ _) R7.out, markedQ_below M7.out (rwZ _ _ _), setRow_heap _ _ _ _ _ _ (heap_alloc_new _ _), ownQ_below Q12.out (rwZ _ _ _), hb.trans ((rwZ _ _ _).mono hb.size)⟩ ?_
    clear H0 HA HX R4 Q4 R7 M7 O3 Q12 hl0c hbz hb
    generalize W7.heap.size = b12 at *
    generalize W2.heap.size = lo12 at *
    rintro Y5 ⟨h0, ha, hx, h4, q4, h7, m7, h12, q12, hb⟩
    have H0 := Lib.hid h0
    have HA := Lib.hid ha
    have HX := Lib.hid hx
    have R4 := Lib.hid h4
    have Q4 := Lib.hid q4
    have R7 := Lib.hid h7
    have M7 := Lib.hid m7
    have R12 := Lib.hid h12
    have Q12 := Lib.hid q12
    clear h0 ha hx h4 q4 h7 m7 h12 q12
    go_wp2_with (first | (refine wpList_load_part rfl 34 _ rfl b12 0 3 rfl 34 (roomC ad ah v12) (0, 0) _ R12.out Tryd.underlying34 rfl info_room (room_fits _ _ _) _ (room_all _ _ _) ?_) | (refine wpList_load_part rfl 34 _ rfl b4 0 3 rfl 34 (roomC ad ah v4) (0, 0) _ R4.out Tryd.underlying34 rfl info_room (room_fits _ _ _) _ (room_all _ _ _) ?_) | (refine wpList_load_part rfl 34 _ rfl b7 0 3 rfl 34 (roomC ad ah v7) (0, 0) _ R7.out Tryd.underlying34 rfl info_room (room_fits _ _ _) _ (room_all _ _ _) ?_) | (go_at_call 17; refine (eqRoom_any ad ah v12 v4 wq _ (ownQ_at Q12.out) (ownQ_at Q4.out)).mono ?_; rintro e W8 ⟨rfl, hb1⟩; replace H0 := Lib.hid (below_row hb1 H0.out); replace HA := Lib.hid (wins_below HA.out hb1); replace HX := Lib.hid (errs_below HX.out hb1); replace R4 := Lib.hid (below_row hb1 R4.out); replace Q4 := Lib.hid (ownQ_below Q4.out hb1); replace R7 := Lib.hid (below_row hb1 R7.out); replace M7 := Lib.hid (markedQ_below M7.out hb1); replace R12 := Lib.hid (below_row hb1 R12.out); replace Q12 := Lib.hid (ownQ_below Q12.out hb1); replace hb := hb.trans (hb1.mono hb.size); clear hb1) | (go_at_call 32; refine (HHD.out _ _ M7.out).mono ?_; rintro e W11 ⟨rfl, hb1⟩; replace H0 := Lib.hid (below_row hb1 H0.out); replace HA := Lib.hid (wins_below HA.out hb1); replace HX := Lib.hid (errs_below HX.out hb1); replace R4 := Lib.hid (below_row hb1 R4.out); replace Q4 := Lib.hid (ownQ_below Q4.out hb1); replace R7 := Lib.hid (below_row hb1 R7.out); replace M7 := Lib.hid (markedQ_below M7.out hb1); replace hb := hb.trans (hb1.mono hb.size); clear hb1))
    go_ret
    exact ⟨rfl, hb⟩

end Go.Proofs.YtdccmdcgbembpaaDoor

namespace Go.Proofs.YtdccmdcgbembpaaDoor
open Go.RowKit

attribute [local go_sem] run_store_f

set_option maxRecDepth 100000 in
set_option maxHeartbeats 4000000 in
theorem idF_any (x : Wn) (w : World) :
    Calls Tryd.prog 72 #[.agg (winC x)] w fun e w' => e = .returned (.agg (winC x)) ∧ Below w.heap.size w w' := by
  go_enter Tryd.func72, Tryd.ntmps72
  go_upto_region 1 with (fail)
  refine abs_world (fun W => W.heap[w.heap.size]? = some (.cells (winC x) 119 (0, 0)) ∧ W.heap[w.heap.size + 1]? = some (.cells (winC (0, 0, 0)) 119 (0, 0)) ∧ Below w.heap.size w W) (two_at w (.cells (winC x) 119) (.cells (winC (0, 0, 0)) 119)) ?_
  rintro W ⟨h2, h3, hb⟩
  have n23 : w.heap.size < w.heap.size + 1 := by omega
  generalize w.heap.size + 1 = b3 at *
  have H2 := Lib.hid h2
  have H3 := Lib.hid h3
  clear h2 h3
  go_wp2_with (first | (refine wpList_load_part rfl 119 _ rfl w.heap.size 0 3 rfl 119 (winC x) (0, 0) _ H2.out Tryd.underlying119 rfl info_win (win_fits _) _ (win_all _) ?_) | (refine wpList_store_part rfl 119 _ _ rfl b3 0 (winC x) rfl rfl 119 (winC (0, 0, 0)) H3.out (by kernel_rfl) (Nat.le_refl _) (win_one _) ?_; rw [laid_allr _ _ (by rfl)]))
  exact bodyPost_ret (v := .agg (winC x)) (results_cell_row rfl _ _ _ _ _ _ _ rfl (setRow_heap _ _ _ _ _ _ H3.out) Tryd.underlying119 rfl info_win) rfl ⟨rfl, below_setRow hb (by omega) _⟩

set_option maxRecDepth 100000 in
theorem enterId (args : Array Value) (w : World) : (callFunc 72 args).run Tryd.prog w = .ok (.enter 72 args) w := by
  first | kernel_rfl | rfl | simp [callFunc]

theorem part_num {x : Nat} (h : PartOk x) : num32 x = true := num_of_isNum (by
  rcases h with h | h
  · exact .inl (by omega)
  · exact .inr ⟨by omega, by omega⟩)

theorem part_mul {x y : Nat} (hx : PartOk x) (hy : PartOk y) : floatBits .mul .f32 x y = some (fmul x y) := (mul_ok (part_num hx) (part_num hy)).1

/-- The windows with the light of one of them dimmed. -/
def dimL (ws : List Wn) (k : Nat) (p : Nat) : List Wn :=
  match ws[k]? with
  | some x => ws.set k (x.1, x.2.1, fmul x.2.2 p)
  | none => ws

theorem dimL_len (ws : List Wn) (k p : Nat) : (dimL ws k p).length = ws.length := by
  unfold dimL
  split
  · rw [List.length_set]
  · rfl

theorem ext_there {cur : Array Value} {i j : Nat} {v : Value} (h : i < j ∨ j + 3 ≤ i) : (cur.setIfInBounds i v).extract j (j + 3) = cur.extract j (j + 3) := by
  apply Array.ext_getElem?
  intro m
  rw [Array.getElem?_extract, Array.getElem?_extract, Array.size_setIfInBounds]
  split
  · exact sgo (by omega)
  · rfl

theorem ext_here {cur : Array Value} {k : Nat} {x : Wn} {z : Nat} (hs : k + 3 ≤ cur.size) (h : cur.extract k (k + 3) = winC x) : (cur.setIfInBounds (k + 2) (.float .f32 z)).extract k (k + 3) = winC (x.1, x.2.1, z) := by
  have g : ∀ m : Nat, (cur.extract k (k + 3))[m]? = (winC x)[m]? := fun m => by rw [h]
  apply Array.ext_getElem?
  intro m
  have gm := g m
  rw [Array.getElem?_extract] at gm ⊢
  rw [Array.size_setIfInBounds]
  match m with
  | 0 => rw [if_pos (by omega)] at gm ⊢; rw [sgo (by omega)]; exact gm
  | 1 => rw [if_pos (by omega)] at gm ⊢; rw [sgo (by omega)]; exact gm
  | 2 => rw [if_pos (by omega), sgs (by omega)]; rfl
  | m + 3 => rw [if_neg (by omega)]; rfl

/-- A row with one light changed holds the windows with that light changed. -/
theorem dim_row {cur : Array Value} {ws : List Wn} {k p : Nat} {x : Wn} (hs : ws.length * 3 ≤ cur.size) (hx : ws[k]? = some x) (h : ∀ j y, ws[j]? = some y → cur.extract (j * 3) (j * 3 + 3) = winC y) :
    ∀ j y, (dimL ws k p)[j]? = some y → (cur.setIfInBounds (k * 3 + 2) (.float .f32 (fmul x.2.2 p))).extract (j * 3) (j * 3 + 3) = winC y := by
  intro j y hy
  have hk := (List.getElem?_eq_some_iff.1 hx).1
  unfold dimL at hy
  rw [hx] at hy
  simp only [List.getElem?_set] at hy
  by_cases e : k = j
  · subst e
    rw [if_pos rfl, if_pos hk] at hy
    obtain rfl := Option.some.inj hy
    exact ext_here (by omega) (h k x hx)
  · rw [if_neg e] at hy
    rw [ext_there (by omega)]
    exact h j y hy

theorem light_at {cur : Array Value} {k : Nat} {x : Wn} (h : cur.extract (k * 3) (k * 3 + 3) = winC x) : cur[k * 3 + 2]? = some (.float .f32 x.2.2) := by
  have g : (cur.extract (k * 3) (k * 3 + 3))[2]? = some (.float .f32 x.2.2) := by rw [h]; rfl
  rw [Array.getElem?_extract] at g
  split at g
  · exact g
  · cases g

end Go.Proofs.YtdccmdcgbembpaaDoor
