/-
  The light of all tiles of a room: what reckons, and the program.
-/
import Derived.Test.YtddnfbpgldchcaaDoorEtA
import Derived.Test.YtddnfbpgldchcaaDoorLightA
import Derived.Test.YtddnfbpgldchcaaDoorRoundL
import Derived.Test.YtddnfbpgldchcaaDoorHeld
namespace Go.Proofs.YtddnfbpgldchcaaDoor
open Go.RowKit Go.Shelf

attribute [local go_sem] Oper.semAt_some

theorem heap_keptWE {W W' : World} {row : Option Nat} {b : Nat} {cs : Array Value} {t : TypeId} {fr : Nat × Nat} (h : W.heap[b]? = some (.cells cs t fr)) (hg : W.grownBy W' row)
    (hr : ∀ r, row = some r → ∃ o : Obj, W.heap[r]? = some o ∧ o.isCells = false) : W'.heap[b]? = some (.cells cs t fr) := by
  have hlt := (Array.getElem?_eq_some_iff.1 h).1
  rw [← h]
  refine hg.block b hlt fun e => ?_
  obtain ⟨o, ho, hc⟩ := hr b e.symm
  rw [h] at ho
  cases ho
  cases hc

theorem keeps_of_belowWE {W W1 : World} (hb : Below W.heap.size W W1) : KeepsOthers W W1 := ⟨hb.size, fun b _ ho _ => (hb.block b (Array.getElem?_eq_some_iff.1 ho).1).trans ho⟩

theorem laid_allwE (cs vs : Array Value) (h : cs.size = vs.size) : laid cs vs 0 = vs := by
  apply Array.ext'
  simp [laid]
  rw [← h]; simp

theorem grown_of_belowE {w w' : World} (h : Below w.heap.size w w') (row : Option Nat) : w.grownBy w' row := ⟨h.os, h.tape, h.output, h.size, fun k hk _ => h.block k hk⟩

theorem run_store_floatE (P : Program) (w : World) (a : Addr) (k : FloatKind) (b : Nat) (m : Mode) : (store a (.float k b) m).run P w = stored P w a (.float k b) m := run_store P w a _ m rfl

attribute [local go_sem] run_store_floatE

def mpC (xs : List Nat) : Array Value := (xs.map (Value.float .f32)).toArray

theorem mpC_size (xs : List Nat) : (mpC xs).size = xs.length := by simp [mpC]

theorem mpC_set (xs : List Nat) (k : Nat) (n : Nat) : (mpC xs).setIfInBounds k (.float .f32 n) = mpC (xs.set k n) := by
  apply Array.ext'
  simp [mpC, List.map_set]

theorem mpC_cell {V : World} {g : Nat} {xs : List Nat} {t : TypeId} {fr : Nat × Nat} (hg : V.heap[g]? = some (.cells (mpC xs) t fr)) (k : Nat) (h : k < xs.length) : V.cell? ⟨g, k, none⟩ = some (.float .f32 (xs[k]?.getD 0)) := by
  rw [cell_of_row V _ _ _ _ _ hg]
  simp [mpC, h]

theorem mpC_all (xs : List Nat) (n : Nat) (h : xs.length = n) : (mpC xs).extract 0 (0 + n) = mpC xs := by
  rw [Nat.zero_add, ← h, ← mpC_size, Array.extract_size]

theorem mpC_one (xs : List Nat) : ∀ v ∈ mpC xs, v.oneCell' = true := by
  intro v hv
  simp only [mpC, List.mem_toArray, List.mem_map] at hv
  obtain ⟨x, _, rfl⟩ := hv
  rfl

theorem info_lm : (Tryd.prog.info? 82).map (·.size) = some 100 := by kernel_rfl

theorem info_aa : (Tryd.prog.info? 81).map (·.size) = some 100 := by kernel_rfl

def zM : List Nat := List.replicate 100 0

theorem zM_len : zM.length = 100 := by simp [zM]

/-- The map of a room, as far as its tiles have been looked at. -/
def mpK (g : Int × Int → Nat) (W H k : Nat) : List Nat := (List.range 100).map (fun i => if i % 10 < W ∧ i / 10 < H ∧ i / 10 * W + i % 10 < k then g (((i % 10 : Nat) : Int), ((i / 10 : Nat) : Int)) else 0)

theorem mpK_len (g : Int × Int → Nat) (W H k : Nat) : (mpK g W H k).length = 100 := by simp [mpK]

theorem mpK_zero (g : Int × Int → Nat) (W H : Nat) : mpK g W H 0 = zM := by
  apply List.ext_getElem
  · simp [mpK, zM]
  · intro i h1 h2
    simp only [mpK, zM, List.getElem_map, List.getElem_range, List.getElem_replicate]
    rw [if_neg (fun h => Nat.not_lt_zero _ h.2.2)]

theorem mpK_step (g : Int × Int → Nat) (W H : Nat) (hW : 0 < W) (hW1 : W ≤ 10) {x y : Nat} (hx : x < W) (hy : y < H) : (mpK g W H (y * W + x)).set (y * 10 + x) (g ((x : Int), (y : Int))) = mpK g W H (y * W + x + 1) := by
  apply List.ext_getElem
  · simp [mpK]
  · intro i h1 h2
    have hi : i < 100 := by simpa [mpK] using h2
    rw [List.getElem_set]
    simp only [mpK, List.getElem_map, List.getElem_range]
    by_cases e : y * 10 + x = i
    · subst e
      have e1 : (y * 10 + x) % 10 = x := by omega
      have e2 : (y * 10 + x) / 10 = y := by omega
      rw [if_pos rfl, e1, e2, if_pos ⟨hx, hy, by omega⟩]
    · rw [if_neg e]
      by_cases hc : i % 10 < W ∧ i / 10 < H
      · have hne : i / 10 * W + i % 10 ≠ y * W + x := by
          intro h
          have a1 : (i / 10 * W + i % 10) % W = i % 10 := by rw [Nat.mul_comm, Nat.mul_add_mod]; exact Nat.mod_eq_of_lt hc.1
          have a2 : (y * W + x) % W = x := by rw [Nat.mul_comm, Nat.mul_add_mod]; exact Nat.mod_eq_of_lt hx
          have a3 : (i / 10 * W + i % 10) / W = i / 10 := by rw [Nat.mul_comm, Nat.mul_add_div hW, Nat.div_eq_of_lt hc.1, Nat.add_zero]
          have a4 : (y * W + x) / W = y := by rw [Nat.mul_comm, Nat.mul_add_div hW, Nat.div_eq_of_lt hx, Nat.add_zero]
          rw [h] at a1 a3
          omega
        by_cases hk : i / 10 * W + i % 10 < y * W + x
        · rw [if_pos ⟨hc.1, hc.2, hk⟩, if_pos ⟨hc.1, hc.2, by omega⟩]
        · rw [if_neg (fun h => hk h.2.2), if_neg (fun h => by have := h.2.2; omega)]
      · rw [if_neg (fun h => hc ⟨h.1, h.2.1⟩), if_neg (fun h => hc ⟨h.1, h.2.1⟩)]

def GoodT (W H : Nat) (hW : 0 < W) (hH : 0 < H) (pre : List (Tt W H)) : Prop := pre = tks W H hW hH pre.length

theorem goodT_snoc {W H : Nat} {hW : 0 < W} {hH : 0 < H} {pre : List (Tt W H)} {x : Tt W H} (h : GoodT W H hW hH (pre ++ [x])) : GoodT W H hW hH pre ∧ x = tk W H hW hH pre.length := by
  unfold GoodT at h
  rw [List.length_append, List.length_singleton, tks_succ] at h
  have := List.append_inj h (by simp)
  exact ⟨this.1, by simpa using this.2⟩

theorem goodT_all (W H : Nat) (hW : 0 < W) (hH : 0 < H) (k : Nat) : GoodT W H hW hH (tks W H hW hH k) := by
  unfold GoodT
  rw [tks_length]

/-- What the k-th tile is. -/
theorem tk_split (W H : Nat) (hW : 0 < W) (hH : 0 < H) {k : Nat} (hk : k < W * H) : ∃ x y : Nat, x < W ∧ y < H ∧ k = y * W + x ∧ (tk W H hW hH k).1 = ((x : Int), (y : Int)) := by
  refine ⟨k % W, k / W, Nat.mod_lt k hW, Nat.div_lt_of_lt_mul hk, ?_, ?_⟩
  · rw [Nat.mul_comm]; exact (Nat.div_add_mod k W).symm
  · have := tk_at W H hW hH (Nat.mod_lt k hW) (Nat.div_lt_of_lt_mul hk)
    rw [Nat.mul_comm (k / W) W, Nat.div_add_mod] at this
    exact this

def MpI (W H : Nat) (hW : 0 < W) (hH : 0 < H) (g : Int × Int → Nat) (w : World) (sv : Value) (b1 b2 gb : Nat) (pre : List (Tt W H)) (V : World) : Prop :=
  ∃ xs : List Nat, xs.length = 100 ∧ V.heap[w.heap.size]? = some (.cells (roomC (W : Int) (H : Int) sv) 33 (0, 0)) ∧ V.heap[b1]? = some (.cells (mpC zM) 82 (0, 0)) ∧ V.heap[b2]? = some (.cells (mpC xs) 82 (0, 0)) ∧ V.heap[gb]? = some (.cells (roomC (W : Int) (H : Int) sv) 33 (0, 0)) ∧ (GoodT W H hW hH pre → xs = mpK g W H pre.length) ∧ Below w.heap.size w V

theorem mpI_own (W H : Nat) (hW : 0 < W) (hH : 0 < H) (g : Int × Int → Nat) (w : World) (sv : Value) (b1 b2 gb : Nat) (B : Nat) (hB : w.heap.size ≤ B) : OwnFrom B (MpI W H hW hH g w sv b1 b2 gb) := by
  intro s V V' row ⟨xs, hx, h0, h1, h2, h3, hg, hb⟩ hg' hr
  have hr2 := fun r e => (hr r e).2
  exact ⟨xs, hx, heap_keptWE h0 hg' hr2, heap_keptWE h1 hg' hr2, heap_keptWE h2 hg' hr2, heap_keptWE h3 hg' hr2, hg, ownFrom_below (β := Unit) (Nat.le_refl _) hB () V V' row hb hg' hr⟩

set_option maxRecDepth 100000 in
set_option maxHeartbeats 8000000 in
theorem mapOf_any (W H : Nat) (hW : 0 < W) (hH : 0 < H) (sv : Value) (ws : List Wn) (ok : RmOk (W : Int) (H : Int) ws) (hwf : ∀ x ∈ ws, WnWf x) (g : Int × Int → Nat) (hg : g = fun t => litW (W : Int) (H : Int) t (fun _ => true) ws) (w : World) (hws : WinsAt w sv ws) :
    Calls Tryd.prog 41 #[.agg (roomC (W : Int) (H : Int) sv)] w fun e w' => e = .returned (.agg (mpC (mpK g W H (W * H)))) ∧ Below w.heap.size w w' := by
  refine (callsIn_wide (n := 4)).1 ?_
  have hW1 : W ≤ 10 := by have := ok.w1; omega
  have hH1 : H ≤ 10 := by have := ok.h1; omega
  have HLT : Hid (∀ (a1 a2 : Int), inRoom (W : Int) (H : Int) (a1, a2) → ∀ V, WinsAt V sv ws → Calls Tryd.prog 52 #[.agg (roomC (W : Int) (H : Int) sv), .agg (tileC a1 a2)] V fun e V' => e = .returned (.float .f32 (g (a1, a2))) ∧ Below V.heap.size V V') := by
    rw [hg]
    exact fun a1 a2 ha V hV => lightAt_any (W : Int) (H : Int) sv ws ok hwf a1 a2 ha V hV
  have HWS := Lib.hid hws
  clear ok hwf hg hws
  refine callsIn_of_wp_marks Tryd.func41 rfl trivial ?_ rfl
  simp only [Tryd.ntmps41, List.size_toArray, List.length_cons, List.length_nil, Nat.reduceAdd, Nat.reduceSub, Array.replicate_succ, Array.replicate_zero, List.push_toArray, List.append_toArray, List.nil_append, List.cons_append]
  refine wpIn_wide.2 ?_
  go_upto_region 2 with (fail)
  refine abs_world (fun V => V.heap[w.heap.size]? = some (.cells (roomC (W : Int) (H : Int) sv) 33 (0, 0)) ∧ V.heap[w.heap.size + 1]? = some (.cells (mpC zM) 82 (0, 0)) ∧ V.heap[w.heap.size + 1 + 1]? = some (.cells (mpC zM) 82 (0, 0)) ∧ Below w.heap.size w V) ⟨(three_new _ _ _ _).1, (three_new _ _ _ _).2.1, (three_new _ _ _ _).2.2.1, (three_new _ _ _ _).2.2.2⟩ ?_
  rintro W0 ⟨r0, r1, r2, hb⟩
  have hl2 := row_lt r2
  have n01 : w.heap.size < w.heap.size + 1 := by omega
  have n12 : w.heap.size + 1 < w.heap.size + 1 + 1 := by omega
  generalize w.heap.size + 1 + 1 = b2 at *
  generalize w.heap.size + 1 = b1 at *
  have hle : w.heap.size ≤ W0.heap.size := hb.size
  have H0 := Lib.hid r0
  have R1 := Lib.hid r1
  have R2 := Lib.hid r2
  have HB := Lib.hid hb
  clear r0 r1 r2 hb
  go_wp2_with (first | (refine wpList_load_part rfl 33 _ rfl w.heap.size 0 3 rfl 33 (roomC (W : Int) (H : Int) sv) (0, 0) _ H0.out Tryd.underlying33 rfl info_room (room_fits _ _ _) _ (room_all _ _ _) ?_) | (go_at_call 38; refine (eachTile_any _ _ _ _).mono ?_; rintro e w' ⟨rfl, rfl⟩))
  refine (wpIn_wide (n := 4)).1 ?_
  refine wpIn_rangeFunc_ownH rfl (by decide) (gf := 51) (lb := #[.pointer (some ⟨W0.heap.size, 0, none⟩)]) rfl trivial (enters_of Tryd.func51 (by kernel_rfl) rfl)
    (eachTile_stops W H hW hH hW1 hH1 sv W0.heap.size _ (heap_alloc_new _ _)) keepsAt_t (keepsAt_b (by simp)) (Below.refl _ _) (fun _ => rfl)
    (MpI W H hW hH g w sv b1 b2 W0.heap.size) (fun _ _ _ => False) (mpI_own W H hW hH g w sv b1 b2 _ _ (by simp; omega)) (fun _ _ _ _ _ hs _ _ => hs) ?h0
    (fun x a' V => ∃ b4 : Nat, W0.heap.size < b4 ∧ a' = { tmps := #[.agg (roomC (W : Int) (H : Int) sv), .pointer (some ⟨w.heap.size, 0, none⟩), .pointer (some ⟨b1, 0, none⟩), .pointer (some ⟨b2, 0, none⟩), .pointer (some ⟨b4, 0, none⟩), .agg (roomC (W : Int) (H : Int) sv), .func (.func 51) #[] #[.pointer (some ⟨W0.heap.size, 0, none⟩)], .agg (tileC x.1.1 x.1.2), undef, undef, undef, undef, undef, undef, undef, undef, undef, undef], defers := [] } ∧ V.heap[b4]? = some (.cells (tileC x.1.1 x.1.2) 48 (0, 0)))
    (fun x a' s V V' row hx hg hr => by obtain ⟨b4, l4, e, h⟩ := hx; exact ⟨b4, l4, e, heap_keptWE h hg (fun r e => (hr r e).2)⟩) ?assign ?body ?done ?stop
  case h0 =>
    exact ⟨zM, zM_len, below_row ((Below.refl W0.heap.size _).alloc (Nat.le_refl _) _) H0.out, below_row ((Below.refl W0.heap.size _).alloc (Nat.le_refl _) _) R1.out, below_row ((Below.refl W0.heap.size _).alloc (Nat.le_refl _) _) R2.out, heap_alloc_new _ _, fun _ => (mpK_zero g W H).symm, HB.out.alloc hle _⟩
  case assign =>
    rintro l pre x W2 K hI hK
    have hgl : W0.heap.size < W2.heap.size := by obtain ⟨_, _, _, _, _, h3, _⟩ := hI; exact row_lt h3
    refine region_plain_round (by rfl) (fun ⟨_, _, h⟩ => h) ?_
    go_wp2_with (refine wpList_store_part rfl 48 _ _ rfl _ 0 (tileC x.1.1 x.1.2) rfl rfl 48 _ (heap_alloc_new _ _) info_tile (Nat.le_refl _) (tile_one _ _) ?_; rw [laid_allwE _ _ (by rfl)])
    have hbn : ∀ o, Below W2.heap.size W2 ((W2.alloc o).setRow W2.heap.size (tileC x.1.1 x.1.2)) := fun o => below_setRow ((Below.refl _ _).alloc (Nat.le_refl _) _) (Nat.le_refl _) _
    exact hK _ _ ((keeps_of_belowWE (hbn _)).from _) (fun _ ho => below_row (hbn _) ho) (mpI_own W H hW hH g w sv b1 b2 _ _ (Nat.le_refl _) _ _ _ none hI (grown_of_belowE (hbn _) none) (fun r e => by cases e)) ⟨_, hgl, rfl, setRow_heap _ _ _ _ _ _ (heap_alloc_new _ _)⟩
  case body =>
    clear H0 R1 R2 HB
    rintro l pre ⟨⟨a1, a2⟩, ha⟩ a' V hl0 hlr ⟨xs, hx, h0, h1, h2, h3, hgd, hbw⟩ ⟨b4, hl4, rfl, h4⟩ hl
    have ha2 := ha
    obtain ⟨p0, p1, p2, p3⟩ := ha2
    dsimp only at p0 p1 p2 p3
    obtain ⟨x, rfl⟩ := Int.eq_ofNat_of_zero_le p0
    obtain ⟨y, rfl⟩ := Int.eq_ofNat_of_zero_le p2
    have hxl : x < W := by omega
    have hyl : y < H := by omega
    have HLA := Lib.hid (HLT.out (x : Int) (y : Int) ha)
    have HM : Hid (GoodT W H hW hH (pre ++ [⟨((x : Int), (y : Int)), ha⟩]) → xs.set (y * 10 + x) (g ((x : Int), (y : Int))) = mpK g W H (pre ++ [(⟨((x : Int), (y : Int)), ha⟩ : Tt W H)]).length) := Lib.hid (fun hgs => by
      obtain ⟨hgp, hxk⟩ := goodT_snoc hgs
      obtain ⟨x', y', hx', hy', hk', htk⟩ := tk_split W H hW hH hl
      have e : ((x : Int), (y : Int)) = ((x' : Int), (y' : Int)) := by rw [← htk, ← hxk]
      have e1 : x = x' := by have := congrArg Prod.fst e; simp at this; omega
      have e2 : y = y' := by have := congrArg Prod.snd e; simp at this; omega
      subst e1 e2
      rw [List.length_append, List.length_singleton, hgd hgp, hk']
      exact mpK_step g W H hW hW1 hxl hyl)
    have H0 := Lib.hid h0
    have H1 := Lib.hid h1
    have H2 := Lib.hid h2
    have H3 := Lib.hid h3
    have H4 := Lib.hid h4
    have HBW := Lib.hid hbw
    have HX := Lib.hid hx
    have HWV := Lib.hid (wins_below HWS.out hbw)
    have z1 : (x : Int) < 10 := by omega
    have z2 : (0 : Int) ≤ (x : Int) := by omega
    have z3 : (y : Int) < 10 := by omega
    have z4 : (0 : Int) ≤ (y : Int) := by omega
    clear hgd h0 h1 h2 h3 h4 hbw hx HLT p0 p1 p2 p3
    dsimp only
    refine wpIn_block ?_
    refine region_round (S := (fun X => X.heap[w.heap.size]? = some (.cells (roomC (W : Int) (H : Int) sv) 33 (0, 0)) ∧ X.heap[b4]? = some (.cells (tileC (x : Int) (y : Int)) 48 (0, 0)) ∧ WinsAt X sv ws)) arrU (no_defer (by rfl)) (fun ⟨_, _, h⟩ => h) ⟨H0.out, H4.out, wins_below HWV.out (Below.drew (Below.refl _ _))⟩ (fun hHeld => ?_)
    refine take_op (i := 0) (d := 8) (v := ?_) rfl rfl (by kernel_rfl) (by kernel_rfl) (by kernel_rfl) (fun _ _ _ h => h) (Or.inl ⟨by rfl, ?hy0e1⟩) hHeld ?rest0e1
    case hy0e1 =>
      intro w' hS'
      go_simp
      try with_reducible rfl
    simp only [List.setIfInBounds_toArray, List.set_cons_zero, List.set_cons_succ]
    refine take_op (i := 1) (d := 9) (v := ?_) rfl rfl (by kernel_rfl) (by kernel_rfl) (by kernel_rfl) (fun _ _ _ h => h) (Or.inl ⟨by rfl, ?hy1e2⟩) hHeld ?rest1e2
    case hy1e2 =>
      intro w' hS'
      have q : w'.cell? ⟨b4, 1, none⟩ = some (.int .i8 (y : Int)) := by rw [cell_of_row _ _ _ _ _ _ hS'.2.1]; rfl
      go_simp
      try with_reducible rfl
    simp only [List.setIfInBounds_toArray, List.set_cons_zero, List.set_cons_succ]
    refine take_op (i := 2) (d := 10) (v := ?_) rfl rfl (by kernel_rfl) (by kernel_rfl) (by kernel_rfl) (fun _ _ _ h => h) (Or.inl ⟨by rfl, ?hy2e3⟩) hHeld ?rest2e3
    case hy2e3 =>
      intro w' hS'
      go_simp
      try with_reducible rfl
    simp only [List.setIfInBounds_toArray, List.set_cons_zero, List.set_cons_succ]
    refine take_op (i := 3) (d := 11) (v := ?_) rfl rfl (by kernel_rfl) (by kernel_rfl) (by kernel_rfl) (fun _ _ _ h => h) (Or.inl ⟨by rfl, ?hy3e4⟩) hHeld ?rest3e4
    case hy3e4 =>
      intro w' hS'
      have q : w'.cell? ⟨b4, 0, none⟩ = some (.int .i8 (x : Int)) := by rw [cell_of_row _ _ _ _ _ _ hS'.2.1]; rfl
      go_simp
      try with_reducible rfl
    simp only [List.setIfInBounds_toArray, List.set_cons_zero, List.set_cons_succ]
    refine take_op (i := 4) (d := 12) (v := .agg (roomC (W : Int) (H : Int) sv)) rfl rfl (by kernel_rfl) (by kernel_rfl) (by kernel_rfl) (fun _ _ _ h => h) (yields_row (by rfl) 33 (.tmp 1) (by rfl) w.heap.size 0 3 (by rfl) 33 (roomC (W : Int) (H : Int) sv) (0, 0) _ (fun _ h => h.1) Tryd.underlying33 rfl info_room (room_fits _ _ _) (roomC (W : Int) (H : Int) sv) (room_all _ _ _)) hHeld ?_
    simp only [List.setIfInBounds_toArray, List.set_cons_zero, List.set_cons_succ]
    refine take_op (i := 5) (d := 13) (v := .agg (tileC (x : Int) (y : Int))) rfl rfl (by kernel_rfl) (by kernel_rfl) (by kernel_rfl) (fun _ _ _ h => h) (yields_row (by rfl) 48 (.tmp 4) (by rfl) b4 0 2 (by rfl) 48 (tileC (x : Int) (y : Int)) (0, 0) _ (fun _ h => h.2.1) Tryd.underlying48 rfl info_tile (tile_fits _ _) (tileC (x : Int) (y : Int)) (tile_all _ _)) hHeld ?_
    simp only [List.setIfInBounds_toArray, List.set_cons_zero, List.set_cons_succ]
    refine take_op (i := 7) (d := 15) (v := ?_) rfl rfl (by kernel_rfl) (by kernel_rfl) (by kernel_rfl) (fun _ _ _ h => h) (Or.inl ⟨by rfl, ?hy7e5⟩) hHeld ?rest7e5
    case hy7e5 =>
      intro w' hS'
      go_simp
      try with_reducible rfl
    simp only [List.setIfInBounds_toArray, List.set_cons_zero, List.set_cons_succ]
    have HVD : Hid (Below V.heap.size V V.drew) := Lib.hid (Below.refl V.heap.size V).drew
    refine wpAnyH_ready (rs := [6]) (by kernel_rfl) (by simp) ?_
    refine AllReadyH.cons rfl (fun K hK => ?_) AllReadyH.nil
    go_simp
    refine (HLA.out _ hHeld.2.2).mono ?_
    rintro e W1 ⟨rfl, hb1⟩
    refine hK.out _ _ ⟨below_row hb1 hHeld.1, below_row hb1 hHeld.2.1, wins_below hHeld.2.2 hb1⟩ (fun hHeld2 => ?_)
    clear hK K
    replace hHeld := hHeld2
    clear hHeld2
    have HB1 : Hid (Below V.heap.size V W1) := HVD.out.trans hb1
    clear hb1
    refine take_op (i := 8) (d := 16) (v := ?_) rfl rfl (by kernel_rfl) (by kernel_rfl) (by kernel_rfl) (fun _ _ _ h => h) (Or.inl ⟨by rfl, ?hy8e6⟩) hHeld ?rest8e6
    case hy8e6 =>
      intro w' hS'
      go_simp
      try with_reducible rfl
    simp only [List.setIfInBounds_toArray, List.set_cons_zero, List.set_cons_succ]
    have h2 := below_row HB1.out H2.out
    have c2 := mpC_cell h2 (y * 10 + x) (by rw [HX.out]; omega)
    have f2 := frozen_of_row W1 b2 (y * 10 + x) _ _ h2
    have H2B := Lib.hid h2
    clear h2
    have hwn : w.heap.size < b2 := by omega
    have hb24 : b2 < b4 := by omega
    refine wpAnyH_ready (rs := [9]) (by kernel_rfl) (by simp) ?_
    refine AllReadyH.cons rfl (fun K hK => ?_) AllReadyH.nil
    go_simp
    have hwW := HBW.out.size
    have hbn : Below w.heap.size w (W1.setCell ⟨b2, y * 10 + x, none⟩ (.float .f32 (g ((x : Int), (y : Int))))) := (HBW.out.trans (HB1.out.mono hwW)).setCell (p := ⟨b2, y * 10 + x, none⟩) (by simp; omega) _
    have hwins := wins_below HWS.out hbn
    refine hK.out _ _ ⟨(heap_setCell_other _ _ _ _ (by simp; omega)).trans hHeld.1, (heap_setCell_other _ _ _ _ (by simp; omega)).trans hHeld.2.1, hwins⟩ (fun hHeld2 => ?_)
    clear hK K
    refine wpAnyH_done (by kernel_rfl) ?_ _
    clear hHeld2 hwins
    gi_wp2
    exact ⟨((keeps_of_belowWE HB1.out).trans (KeepsOthers.setCell _ _ _)).from _, fun o ho => (heap_setCell_other _ _ _ _ (by simp; omega)).trans (below_row HB1.out ho), xs.set (y * 10 + x) (g ((x : Int), (y : Int))), by rw [List.length_set]; exact HX.out, (heap_setCell_other _ _ _ _ (by simp; omega)).trans (below_row HB1.out H0.out), (heap_setCell_other _ _ _ _ (by simp; omega)).trans (below_row HB1.out H1.out), by rw [heap_setCell_same _ _ _ _ _ _ H2B.out, mpC_set], (heap_setCell_other _ _ _ _ (by simp; omega)).trans (below_row HB1.out H3.out), HM.out, hbn⟩
  case done =>
    clear H0 R1 R2 HB HLT HWS
    rintro D zs V hD rfl ⟨xs, hx, h0, h1, h2, h3, hgd, hb⟩ hK
    rename_i K hcont
    have hD' : w.heap.size ≤ D := by first | omega | (simp at hD; omega)
    have hDb : D ≠ b1 := by first | omega | (simp at hD; omega)
    have hM := hgd (goodT_all W H hW hH (W * H))
    rw [tks_length] at hM
    subst hM
    have H1 := Lib.hid h1
    have H2 := Lib.hid h2
    have HK := Lib.hid hK
    have LM := Lib.hid (mpK_len g W H (W * H))
    clear hgd h0 h1 h2 h3 hD hK hx
    refine hcont _ _ ?_
    have hle1 : w.heap.size ≤ b1 := by omega
    go_wp2_with (first | (refine wpList_load_part rfl 82 _ rfl b2 0 100 rfl 82 (mpC (mpK g W H (W * H))) (0, 0) _ H2.out Tryd.underlying82 rfl info_lm (by rw [mpC_size, LM.out]; decide) (mpC (mpK g W H (W * H))) (mpC_all _ 100 LM.out) ?_) | (refine wpList_store_part rfl 82 _ _ rfl b1 0 (mpC (mpK g W H (W * H))) rfl rfl 82 _ H1.out (by rw [mpC_size, LM.out]; exact info_lm) (by rw [mpC_size, mpC_size, LM.out, zM_len]; decide) (mpC_one _) ?_; rw [laid_allwE _ _ (by rw [mpC_size, mpC_size, LM.out, zM_len])]))
    have hK2 : (V.setRow b1 (mpC (mpK g W H (W * H)))).heap[D]? = some (.deferred (some [])) := (setRow_other _ _ _ _ hDb).trans HK.out
    have hR := setRow_heap V b1 _ (mpC (mpK g W H (W * H))) _ _ H1.out
    refine ⟨by simp, .inl ⟨_, _, rfl, run_takeDeferred hK2, ?_⟩⟩
    refine ⟨.agg (mpC (mpK g W H (W * H))), results_cell_row (fn := Tryd.f41) rfl _ _ _ _ _ _ _ rfl ((World.putObj_heap_other (Ne.symm hDb)).trans hR) Tryd.underlying82 rfl (by rw [mpC_size, LM.out]; exact info_lm), rfl, ?_⟩
    exact (below_setRow hb hle1 _).trans (belowK_b (w := w) (Nat.le_refl _) _ D _ _ hD' hK2 rfl rfl)
  case stop =>
    rintro D c pre V _ _ h _
    exact h.elim

end Go.Proofs.YtddnfbpgldchcaaDoor
