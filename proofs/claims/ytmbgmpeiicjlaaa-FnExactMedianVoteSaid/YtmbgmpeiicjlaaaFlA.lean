/-
  Lists of numbers of single precision that came in: how they are opened, and how the laws' helpers copy and compare them.

-/
import Derived.Test.YtmbgmpeiicjlaaaGenL
import Derived.Test.YtmbgmpeiicjlaaaSameN
import Derived.Test.YtmbgmpeiicjlaaaRows
import Derived.Test.YtmbgmpeiicjlaaaLaw
import Derived.Deep.Slices
import Derived.Deep.OwnRows

namespace Go.Proofs.Ytmbgmpeiicjlaaa

open Go.ChangeShapes Go.WideShapes Go.ChangeAt Go.RowKit Go.Deep Go.Joins

attribute [local go_sem] run_store_f

def FloatsAt (W : World) (v : Value) (zs : List Nat) : Prop :=
  ∃ a cap, v = .slice a zs.length cap ∧ zs.length ≤ cap ∧ cap ≤ maxLen ∧ ∀ i x, zs[i]? = some x → ∃ g o, a = some ⟨g, o, none⟩ ∧ W.cell? ⟨g, o + i, none⟩ = some (.float .f32 x)

theorem floats_below {W W' : World} {v : Value} {zs : List Nat} (h : FloatsAt W v zs) (hb : Below W.heap.size W W') : FloatsAt W' v zs := by
  obtain ⟨a, cap, h1, h2, h3, h4⟩ := h
  refine ⟨a, cap, h1, h2, h3, fun i x hx => ?_⟩
  obtain ⟨g, o, e, c0⟩ := h4 i x hx
  exact ⟨g, o, e, cell_below hb c0⟩

theorem float_at {W : World} {a : Option Addr} {n cap : Nat} {zs : List Nat} (h : FloatsAt W (.slice a n cap) zs) {k : Nat} {x : Nat} (hx : zs[k]? = some x) :
    ∃ g o, a = some ⟨g, o, none⟩ ∧ W.cell? ⟨g, o + k, none⟩ = some (.float .f32 x) := by
  obtain ⟨a', cap', e, _, _, h4⟩ := h
  injection e with e1 e2 e3
  subst e1
  exact h4 k x hx

set_option maxRecDepth 100000 in
theorem open_floatS {H : Type} {enc : TypeId × Value → H} {W : World} {b0 base : Nat} {spare : Nat → Bool} {held : Bool} {r : Reach} {v : Value} {d : DataW H} {p : List MemPlace}
    (hv : Value.okWide Try.prog W r b0 22 v) (h : DataW.Trod enc Try.prog W base spare held 22 v d p) : ∃ zs, FloatsAt W v zs ∧ ∀ z ∈ zs, (Lit.float .f32 z).wf = true := by
  obtain ⟨a0, len0, cap0, rfl⟩ := okWide_slice Try.underlying22 hv
  obtain ⟨fuel, hf⟩ := h
  rcases open_slice1 Try.underlying22 (by kernel_rfl) hf with ⟨hcs, _⟩ | ⟨a, len, cap, m, n, V, D, Pl, hcs, _, hl, hm, hmm, _, hi⟩
  · simp [Value.cells] at hcs
    obtain ⟨rfl, rfl, rfl⟩ := hcs
    exact ⟨[], ⟨none, 0, rfl, Nat.le_refl _, by unfold maxLen; omega, fun i x hx => by simp at hx⟩, fun x hx => by cases hx⟩
  · simp [Value.cells] at hcs
    obtain ⟨rfl, rfl, rfl⟩ := hcs
    have hspot : 0 < len0 → a.spot = none := by
      intro h0
      have g0 := (hi 0 (by rw [hmm]; split <;> omega)).1
      have := World.cell?_spot g0
      simpa [Addr.add] using this
    have key : ∀ i, i < len0 → ∃ x : Nat, (Lit.float .f32 x).wf = true ∧ ∃ g o, some a = some ⟨g, o, none⟩ ∧ W.cell? ⟨g, o + i, none⟩ = some (.float .f32 x) := by
      intro i hlt
      obtain ⟨hc, ht⟩ := hi i (by rw [hmm]; split <;> omega)
      obtain ⟨x, q, wx⟩ := trod_f Try.underlying23 ht
      simp only [List.cons.injEq, and_true] at q
      rw [q] at hc
      have hsp := hspot (by omega)
      obtain ⟨g, o, spot⟩ := a
      obtain rfl : spot = none := hsp
      rw [addr_add] at hc
      exact ⟨x, wx, g, o, rfl, hc⟩
    obtain ⟨ws, hlen, hall⟩ := list_of len0 key
    subst hlen
    refine ⟨ws, ⟨some a, cap0, rfl, hl, hm, fun i x hx => (hall i x hx).2⟩, fun x hx => ?_⟩
    obtain ⟨i, hi⟩ := List.mem_iff_getElem?.1 hx
    exact (hall i x hi).1

theorem info_f32 : (Try.prog.info? 23).map (fun i => (i.zero, i.size, i.bytes)) = some (some (.float .f32 0), 1, 4) := by kernel_rfl

theorem make_floats (n : Nat) (hn : n ≤ 1048576) (w : World) : (Instr.makeSlice 22 (.int .i64 (n : Int)) (.int .i64 (n : Int))).run Try.prog w = .ok (.slice (some ⟨w.heap.size, 0, none⟩) n n) (w.alloc (.cells (madeCells #[.float .f32 0] n) 23)) := by
  obtain ⟨i0, hi, hz0, hz1, hz2⟩ := info_parts info_f32
  have h := run_make (P := Try.prog) w 22 23 i0 _ Try.underlying22 hi hz0 .i64 .i64 (n : Int) (n : Int) (by omega) (Int.le_refl _) (by rw [hz2]; omega) (by omega)
  rw [hz1] at h
  simpa [Value.cells] using h

set_option maxRecDepth 100000 in
set_option maxHeartbeats 1000000 in
theorem toFloat32S_any (sv : Value) (zs : List Nat) (hlen : zs.length ≤ 1048576) (w : World) (hzs : FloatsAt w sv zs) :
    Calls Try.prog 5 #[sv] w fun e w' => (∃ v, e = .returned v ∧ FloatsAt w' v zs) ∧ Below w.heap.size w w' := by
  have HW := Lib.hid hzs
  obtain ⟨a, cap, rfl, hl1, hl2, _⟩ := hzs
  unfold maxLen at hl2
  generalize hn : zs.length = n at *
  have HN := Lib.hid hn
  have hmk := fun w => make_floats n hlen w
  clear hn
  go_enter Try.func5, Try.ntmps5
  go_wp2
  go_loopw [4] (fun i wr => ∃ k : Nat, k ≤ n ∧ i = .int .i64 k ∧ Below w.heap.size w wr ∧ ∃ cur : Array Value, wr.heap[w.heap.size]? = some (.cells cur 23 (0, 0)) ∧ cur.size = n ∧ ∀ j x, j < k → zs[j]? = some x → cur[j]? = some (.float .f32 x)) (fun i _ => n - (intOf i).toNat)
  case atStart => exact ⟨0, Nat.zero_le _, rfl, (Below.refl _ _).alloc (Nat.le_refl _) _, _, heap_alloc_new _ _, size_madeCells _ _, fun j x hj => by omega⟩
  case round =>
    clear hmk
    obtain ⟨k, hk, rfl, hb, cur, hg, hs, hp⟩ := hrel
    have HP := Lib.hid hp
    have HG := Lib.hid hg
    by_cases hlt : k < n
    · have hx : zs[k]? = some (zs[k]'(by rw [HN.out]; exact hlt)) := List.getElem?_eq_getElem _
      obtain ⟨g, o, rfl, hc⟩ := float_at (floats_below HW.out hb) hx
      generalize (zs[k]'(by rw [HN.out]; exact hlt)) = x at *
      have HX := Lib.hid hx
      have q1 : wr.cell? ⟨w.heap.size, k, none⟩ = some (cur[k]'(by omega)) := by rw [cell_of_row wr _ _ _ _ _ hg]; exact Array.getElem?_eq_getElem (by omega)
      have q2 := frozen_of_row wr w.heap.size k _ _ hg
      have z1 : (k : Int) < (n : Int) := by omega
      have z2 : (0 : Int) ≤ (k : Int) := by omega
      clear hp hg hx
      go_wp2
      go_roundw
      case rel =>
        refine ⟨k + 1, by omega, by go_num, hb.setCell (p := ⟨w.heap.size, k, none⟩) (Nat.le_refl _) _, cur.setIfInBounds k (.float .f32 x), heap_setCell_same _ _ _ _ _ _ HG.out, by simpa using hs, fun j y hj hy => ?_⟩
        rw [Array.getElem?_setIfInBounds]
        by_cases e : k = j
        · subst e
          rw [HX.out] at hy
          obtain rfl := Option.some.inj hy
          rw [if_pos rfl, if_pos (by omega)]
        · rw [if_neg e]; exact HP.out j y (by omega) hy
      case measure => simp [intOf]; omega
    · obtain rfl : k = n := by omega
      have HR : Hid (FloatsAt wr (.slice (some ⟨w.heap.size, 0, none⟩) k k) zs) := by
        refine ⟨_, k, by rw [HN.out], by rw [HN.out]; exact Nat.le_refl _, by unfold maxLen; omega, fun j x hx => ⟨w.heap.size, 0, rfl, ?_⟩⟩
        have hj := (List.getElem?_eq_some_iff.1 hx).1
        rw [Nat.zero_add, cell_of_row wr _ _ _ _ _ HG.out]
        exact HP.out j x (by have := HN.out; omega) hx
      clear hp hg
      go_wp2
      go_ret
      exact ⟨⟨_, rfl, HR.out⟩, hb⟩

set_option maxRecDepth 100000 in
set_option maxHeartbeats 4000000 in
theorem eqFloat32S_any (v1 v2 : Value) (zs : List Nat) (w : World) (h1 : FloatsAt w v1 zs) (h2 : FloatsAt w v2 zs) :
    Calls Try.prog 8 #[v1, v2] w fun e w' => e = .returned (.bool true) ∧ Below w.heap.size w w' := by
  have H1 := Lib.hid h1
  have H2 := Lib.hid h2
  obtain ⟨a1, c1, rfl, hl1, hm1, _⟩ := h1
  obtain ⟨a2, c2, rfl, hl2, hm2, _⟩ := h2
  unfold maxLen at hm1 hm2
  generalize hn : zs.length = n at *
  have HN := Lib.hid hn
  clear hn
  go_enter Try.func8, Try.ntmps8
  go_wp2
  go_loopw [5] (fun i wr => ∃ k : Nat, k ≤ n ∧ i = .int .i64 k ∧ Below w.heap.size w wr) (fun i _ => n - (intOf i).toNat)
  case atStart => exact ⟨0, Nat.zero_le _, rfl, Below.refl _ _⟩
  case round =>
    obtain ⟨k, hk, rfl, hb⟩ := hrel
    by_cases hlt : k < n
    · have hx : zs[k]? = some (zs[k]'(by rw [HN.out]; exact hlt)) := List.getElem?_eq_getElem _
      obtain ⟨g1, o1, rfl, q1⟩ := float_at (floats_below H1.out hb) hx
      obtain ⟨g2, o2, rfl, q2⟩ := float_at (floats_below H2.out hb) hx
      generalize (zs[k]'(by rw [HN.out]; exact hlt)) = x at *
      have z0 : (0 : Int) ≤ (k : Int) := by omega
      have z1 : (k : Int) < (n : Int) := by omega
      have z2 : decide ((k : Int) < (n : Int)) = true := decide_eq_true z1
      clear hx
      cases hf : fin32 x with
      | true =>
        have hw0 := run_wide _ hf
        have Hv0 := Lib.hid hf
        clear hf
        go_wp2
        refine wp_region_held_drew (S := (fun W => W.cell? ⟨g1, o1 + k, none⟩ = some (.float .f32 x) ∧ W.cell? ⟨g2, o2 + k, none⟩ = some (.float .f32 x) ∧ Below w.heap.size w W)) (by kernel_rfl) ⟨by simpa using q1, by simpa using q2, hb.drew⟩ (fun hHeld => ?_)
        refine take_op (i := 0) (d := 17) (v := ?_) rfl rfl (by kernel_rfl) (by kernel_rfl) (by kernel_rfl) (fun _ _ _ h => h) (Or.inl ⟨by rfl, ?hy0u1⟩) hHeld ?rest0u1
        case hy0u1 =>
          intro w' hS'
          obtain ⟨s1, s2, _⟩ := hS'
          go_simp
          try with_reducible rfl
        simp only [List.setIfInBounds_toArray, List.set_cons_zero, List.set_cons_succ]
        refine take_op (i := 1) (d := 18) (v := ?_) rfl rfl (by kernel_rfl) (by kernel_rfl) (by kernel_rfl) (fun _ _ _ h => h) (Or.inl ⟨by rfl, ?hy1u2⟩) hHeld ?rest1u2
        case hy1u2 =>
          intro w' hS'
          obtain ⟨s1, s2, _⟩ := hS'
          go_simp
          try with_reducible rfl
        simp only [List.setIfInBounds_toArray, List.set_cons_zero, List.set_cons_succ]
        refine take_op (i := 2) (d := 19) (v := ?_) rfl rfl (by kernel_rfl) (by kernel_rfl) (by kernel_rfl) (fun _ _ _ h => h) (Or.inl ⟨by rfl, ?hy2u3⟩) hHeld ?rest2u3
        case hy2u3 =>
          intro w' hS'
          obtain ⟨s1, s2, _⟩ := hS'
          go_simp
          try with_reducible rfl
        simp only [List.setIfInBounds_toArray, List.set_cons_zero, List.set_cons_succ]
        refine take_op (i := 3) (d := 20) (v := ?_) rfl rfl (by kernel_rfl) (by kernel_rfl) (by kernel_rfl) (fun _ _ _ h => h) (Or.inl ⟨by rfl, ?hy3u4⟩) hHeld ?rest3u4
        case hy3u4 =>
          intro w' hS'
          obtain ⟨s1, s2, _⟩ := hS'
          go_simp
          try with_reducible rfl
        simp only [List.setIfInBounds_toArray, List.set_cons_zero, List.set_cons_succ]
        refine take_op (i := 5) (d := 22) (v := ?_) rfl rfl (by kernel_rfl) (by kernel_rfl) (by kernel_rfl) (fun _ _ _ h => h) (Or.inl ⟨by rfl, ?hy5u5⟩) hHeld ?rest5u5
        case hy5u5 =>
          intro w' hS'
          obtain ⟨s1, s2, _⟩ := hS'
          go_simp
          try with_reducible rfl
        simp only [List.setIfInBounds_toArray, List.set_cons_zero, List.set_cons_succ]
        refine take_op (i := 6) (d := 23) (v := ?_) rfl rfl (by kernel_rfl) (by kernel_rfl) (by kernel_rfl) (fun _ _ _ h => h) (Or.inl ⟨by rfl, ?hy6u6⟩) hHeld ?rest6u6
        case hy6u6 =>
          intro w' hS'
          obtain ⟨s1, s2, _⟩ := hS'
          go_simp
          try with_reducible rfl
        simp only [List.setIfInBounds_toArray, List.set_cons_zero, List.set_cons_succ]
        refine take_op (i := 7) (d := 24) (v := ?_) rfl rfl (by kernel_rfl) (by kernel_rfl) (by kernel_rfl) (fun _ _ _ h => h) (Or.inl ⟨by rfl, ?hy7u7⟩) hHeld ?rest7u7
        case hy7u7 =>
          intro w' hS'
          obtain ⟨s1, s2, _⟩ := hS'
          go_simp
          try with_reducible rfl
        simp only [List.setIfInBounds_toArray, List.set_cons_zero, List.set_cons_succ]
        refine take_op (i := 8) (d := 25) (v := ?_) rfl rfl (by kernel_rfl) (by kernel_rfl) (by kernel_rfl) (fun _ _ _ h => h) (Or.inl ⟨by rfl, ?hy8u8⟩) hHeld ?rest8u8
        case hy8u8 =>
          intro w' hS'
          obtain ⟨s1, s2, _⟩ := hS'
          go_simp
          try with_reducible rfl
        simp only [List.setIfInBounds_toArray, List.set_cons_zero, List.set_cons_succ]
        refine take_op (i := 4) (d := 21) (v := ?_) rfl rfl (by kernel_rfl) (by kernel_rfl) (by kernel_rfl) (fun _ _ _ h => h) (Or.inl ⟨by rfl, ?hy4u9⟩) hHeld ?rest4u9
        case hy4u9 =>
          intro w' hS'
          go_simp
          try with_reducible rfl
        simp only [List.setIfInBounds_toArray, List.set_cons_zero, List.set_cons_succ]
        refine take_op (i := 9) (d := 26) (v := ?_) rfl rfl (by kernel_rfl) (by kernel_rfl) (by kernel_rfl) (fun _ _ _ h => h) (Or.inl ⟨by rfl, ?hy9u10⟩) hHeld ?rest9u10
        case hy9u10 =>
          intro w' hS'
          go_simp
          try with_reducible rfl
        simp only [List.setIfInBounds_toArray, List.set_cons_zero, List.set_cons_succ]
        refine wpAnyH_ready (rs := [10]) (by kernel_rfl) (by simp) ?_
        refine AllReadyH.cons rfl (fun K hK => ?_) AllReadyH.nil
        go_simp
        refine (same_wide _ Hv0.out _).mono ?_
        rintro e w' ⟨rfl, rfl⟩
        refine hK.out _ _ (hHeld) (fun hHeld2 => ?_)
        clear hK K
        replace hHeld := hHeld2
        clear hHeld2
        refine take_op (i := 11) (d := 28) (v := ?_) rfl rfl (by kernel_rfl) (by kernel_rfl) (by kernel_rfl) (fun _ _ _ h => h) (Or.inl ⟨by rfl, ?hy11u11⟩) hHeld ?rest11u11
        case hy11u11 =>
          intro w' hS'
          go_simp
          try with_reducible rfl
        simp only [List.setIfInBounds_toArray, List.set_cons_zero, List.set_cons_succ]
        refine wpAnyH_done (by kernel_rfl) ?_ _
        have hbx := hHeld.2.2
        clear hHeld q1 q2 hb
        go_wp2
        go_roundw
        case rel => exact ⟨k + 1, by omega, by go_num, hbx⟩
        case measure => simp [intOf]; omega
      | false =>
        have hw0 := run_wide_nan _ hf
        clear hf
        go_wp2
        refine wp_region_held_drew (S := (fun W => W.cell? ⟨g1, o1 + k, none⟩ = some (.float .f32 x) ∧ W.cell? ⟨g2, o2 + k, none⟩ = some (.float .f32 x) ∧ Below w.heap.size w W)) (by kernel_rfl) ⟨by simpa using q1, by simpa using q2, hb.drew⟩ (fun hHeld => ?_)
        refine take_op (i := 0) (d := 17) (v := ?_) rfl rfl (by kernel_rfl) (by kernel_rfl) (by kernel_rfl) (fun _ _ _ h => h) (Or.inl ⟨by rfl, ?hy0u12⟩) hHeld ?rest0u12
        case hy0u12 =>
          intro w' hS'
          obtain ⟨s1, s2, _⟩ := hS'
          go_simp
          try with_reducible rfl
        simp only [List.setIfInBounds_toArray, List.set_cons_zero, List.set_cons_succ]
        refine take_op (i := 1) (d := 18) (v := ?_) rfl rfl (by kernel_rfl) (by kernel_rfl) (by kernel_rfl) (fun _ _ _ h => h) (Or.inl ⟨by rfl, ?hy1u13⟩) hHeld ?rest1u13
        case hy1u13 =>
          intro w' hS'
          obtain ⟨s1, s2, _⟩ := hS'
          go_simp
          try with_reducible rfl
        simp only [List.setIfInBounds_toArray, List.set_cons_zero, List.set_cons_succ]
        refine take_op (i := 2) (d := 19) (v := ?_) rfl rfl (by kernel_rfl) (by kernel_rfl) (by kernel_rfl) (fun _ _ _ h => h) (Or.inl ⟨by rfl, ?hy2u14⟩) hHeld ?rest2u14
        case hy2u14 =>
          intro w' hS'
          obtain ⟨s1, s2, _⟩ := hS'
          go_simp
          try with_reducible rfl
        simp only [List.setIfInBounds_toArray, List.set_cons_zero, List.set_cons_succ]
        refine take_op (i := 3) (d := 20) (v := ?_) rfl rfl (by kernel_rfl) (by kernel_rfl) (by kernel_rfl) (fun _ _ _ h => h) (Or.inl ⟨by rfl, ?hy3u15⟩) hHeld ?rest3u15
        case hy3u15 =>
          intro w' hS'
          obtain ⟨s1, s2, _⟩ := hS'
          go_simp
          try with_reducible rfl
        simp only [List.setIfInBounds_toArray, List.set_cons_zero, List.set_cons_succ]
        refine take_op (i := 5) (d := 22) (v := ?_) rfl rfl (by kernel_rfl) (by kernel_rfl) (by kernel_rfl) (fun _ _ _ h => h) (Or.inl ⟨by rfl, ?hy5u16⟩) hHeld ?rest5u16
        case hy5u16 =>
          intro w' hS'
          obtain ⟨s1, s2, _⟩ := hS'
          go_simp
          try with_reducible rfl
        simp only [List.setIfInBounds_toArray, List.set_cons_zero, List.set_cons_succ]
        refine take_op (i := 6) (d := 23) (v := ?_) rfl rfl (by kernel_rfl) (by kernel_rfl) (by kernel_rfl) (fun _ _ _ h => h) (Or.inl ⟨by rfl, ?hy6u17⟩) hHeld ?rest6u17
        case hy6u17 =>
          intro w' hS'
          obtain ⟨s1, s2, _⟩ := hS'
          go_simp
          try with_reducible rfl
        simp only [List.setIfInBounds_toArray, List.set_cons_zero, List.set_cons_succ]
        refine take_op (i := 7) (d := 24) (v := ?_) rfl rfl (by kernel_rfl) (by kernel_rfl) (by kernel_rfl) (fun _ _ _ h => h) (Or.inl ⟨by rfl, ?hy7u18⟩) hHeld ?rest7u18
        case hy7u18 =>
          intro w' hS'
          obtain ⟨s1, s2, _⟩ := hS'
          go_simp
          try with_reducible rfl
        simp only [List.setIfInBounds_toArray, List.set_cons_zero, List.set_cons_succ]
        refine take_op (i := 8) (d := 25) (v := ?_) rfl rfl (by kernel_rfl) (by kernel_rfl) (by kernel_rfl) (fun _ _ _ h => h) (Or.inl ⟨by rfl, ?hy8u19⟩) hHeld ?rest8u19
        case hy8u19 =>
          intro w' hS'
          obtain ⟨s1, s2, _⟩ := hS'
          go_simp
          try with_reducible rfl
        simp only [List.setIfInBounds_toArray, List.set_cons_zero, List.set_cons_succ]
        refine wpAnyH_ready (rs := [4, 9]) (by kernel_rfl) (by simp) ?_
        refine AllReadyH.cons rfl (fun K hK => ?_) (AllReadyH.cons rfl (fun K hK => ?_) AllReadyH.nil)
        · go_simp
          refine hK.out _ _ ⟨by simpa using hHeld.1, by simpa using hHeld.2.1, hHeld.2.2.drew⟩ (fun hHeld2 => ?_)
          clear hK K
          replace hHeld := hHeld2
          clear hHeld2
          refine wpAnyH_ready (rs := [9]) (by kernel_rfl) (by simp) ?_
          refine AllReadyH.cons rfl (fun K hK => ?_) AllReadyH.nil
          go_simp
          refine hK.out _ _ ⟨by simpa using hHeld.1, by simpa using hHeld.2.1, hHeld.2.2.drew⟩ (fun hHeld2 => ?_)
          clear hK K
          replace hHeld := hHeld2
          clear hHeld2
          refine wpAnyH_ready (rs := [10]) (by kernel_rfl) (by simp) ?_
          refine AllReadyH.cons rfl (fun K hK => ?_) AllReadyH.nil
          go_simp
          refine (same_nan _ _ (nanW_nan _ _) (nanW_nan _ _) _).mono ?_
          rintro e w' ⟨rfl, rfl⟩
          refine hK.out _ _ (hHeld) (fun hHeld2 => ?_)
          clear hK K
          replace hHeld := hHeld2
          clear hHeld2
          refine take_op (i := 11) (d := 28) (v := ?_) rfl rfl (by kernel_rfl) (by kernel_rfl) (by kernel_rfl) (fun _ _ _ h => h) (Or.inl ⟨by rfl, ?hy11u20⟩) hHeld ?rest11u20
          case hy11u20 =>
            intro w' hS'
            go_simp
            try with_reducible rfl
          simp only [List.setIfInBounds_toArray, List.set_cons_zero, List.set_cons_succ]
          refine wpAnyH_done (by kernel_rfl) ?_ _
          have hbx := hHeld.2.2
          clear hHeld q1 q2 hb
          go_wp2
          go_roundw
          case rel => exact ⟨k + 1, by omega, by go_num, hbx⟩
          case measure => simp [intOf]; omega
        · go_simp
          refine hK.out _ _ ⟨by simpa using hHeld.1, by simpa using hHeld.2.1, hHeld.2.2.drew⟩ (fun hHeld2 => ?_)
          clear hK K
          replace hHeld := hHeld2
          clear hHeld2
          refine wpAnyH_ready (rs := [4]) (by kernel_rfl) (by simp) ?_
          refine AllReadyH.cons rfl (fun K hK => ?_) AllReadyH.nil
          go_simp
          refine hK.out _ _ ⟨by simpa using hHeld.1, by simpa using hHeld.2.1, hHeld.2.2.drew⟩ (fun hHeld2 => ?_)
          clear hK K
          replace hHeld := hHeld2
          clear hHeld2
          refine wpAnyH_ready (rs := [10]) (by kernel_rfl) (by simp) ?_
          refine AllReadyH.cons rfl (fun K hK => ?_) AllReadyH.nil
          go_simp
          refine (same_nan _ _ (nanW_nan _ _) (nanW_nan _ _) _).mono ?_
          rintro e w' ⟨rfl, rfl⟩
          refine hK.out _ _ (hHeld) (fun hHeld2 => ?_)
          clear hK K
          replace hHeld := hHeld2
          clear hHeld2
          refine take_op (i := 11) (d := 28) (v := ?_) rfl rfl (by kernel_rfl) (by kernel_rfl) (by kernel_rfl) (fun _ _ _ h => h) (Or.inl ⟨by rfl, ?hy11u21⟩) hHeld ?rest11u21
          case hy11u21 =>
            intro w' hS'
            go_simp
            try with_reducible rfl
          simp only [List.setIfInBounds_toArray, List.set_cons_zero, List.set_cons_succ]
          refine wpAnyH_done (by kernel_rfl) ?_ _
          have hbx := hHeld.2.2
          clear hHeld q1 q2 hb
          go_wp2
          go_roundw
          case rel => exact ⟨k + 1, by omega, by go_num, hbx⟩
          case measure => simp [intOf]; omega
    · obtain rfl : k = n := by omega
      go_wp2
      go_ret
      exact ⟨rfl, hb⟩

end Go.Proofs.Ytmbgmpeiicjlaaa
