/-
  GbA, GbI, EtH, LtA, LtB, GbP, GbS.
-/
import Derived.Test.YtdccmdcgbembpaaDoorRoomE
import Derived.Test.YtdccmdcgbembpaaDoorDeskA
import Derived.Test.YtdccmdcgbembpaaDoorPart
import Derived.Test.YtdccmdcgbembpaaDoorRoomV
import Derived.Test.YtdccmdcgbembpaaDoorEtD
import Derived.Great.BuildSlice
import Derived.Test.YtdccmdcgbembpaaDoorCode
import Derived.Test.YtdccmdcgbembpaaDoorSameN
import Derived.Test.YtdccmdcgbembpaaDoorGlareA
import Derived.Test.YtdccmdcgbembpaaDoorRoomW
import Derived.Test.YtdccmdcgbembpaaDoorGlareS
import Derived.Test.YtdccmdcgbembpaaDoorRoomS
import Derived.Test.YtdccmdcgbembpaaDoorBox

namespace Go.Proofs.YtdccmdcgbembpaaDoor
open Go.ChangeShapes Go.WideShapes Go.ChangeAt Go.RowKit Go.Deep Go.Joins

attribute [local go_sem] run_store_f

/-- A desk: where it stands, and the wall that it is faced to. -/
abbrev Dk := Int × Int × Int

def dkC (x : Dk) : Array Value := #[.int .i8 x.1, .int .i8 x.2.1, .int .i8 x.2.2]

def DkWf (x : Dk) : Prop := I8 x.1 ∧ I8 x.2.1 ∧ I8 x.2.2

def DksAt (W : World) (v : Value) (ws : List Dk) : Prop :=
  ∃ a cap, v = .slice a ws.length cap ∧ ws.length ≤ cap ∧ cap ≤ maxLen ∧ ∀ i x, ws[i]? = some x → ∃ g o, a = some ⟨g, o, none⟩ ∧
    W.cell? ⟨g, o + i * 3, none⟩ = some (.int .i8 x.1) ∧ W.cell? ⟨g, o + i * 3 + 1, none⟩ = some (.int .i8 x.2.1) ∧ W.cell? ⟨g, o + i * 3 + 2, none⟩ = some (.int .i8 x.2.2)

theorem dks_below {W W' : World} {v : Value} {ws : List Dk} (h : DksAt W v ws) (hb : Below W.heap.size W W') : DksAt W' v ws := by
  obtain ⟨a, cap, h1, h2, h3, h4⟩ := h
  refine ⟨a, cap, h1, h2, h3, fun i x hx => ?_⟩
  obtain ⟨g, o, e, c0, c1, c2⟩ := h4 i x hx
  exact ⟨g, o, e, cell_below hb c0, cell_below hb c1, cell_below hb c2⟩

set_option maxRecDepth 100000 in
theorem open_dks {H : Type} {enc : TypeId × Value → H} {W : World} {base : Nat} {spare : Nat → Bool} {held : Bool} {fuel : Nat} {v : Value} {x : DataW H × List MemPlace}
    (h : DataW.trod enc Tryd.prog W base spare held fuel 52 [v] = some x) : ∃ ws, DksAt W v ws ∧ ∀ x ∈ ws, DkWf x := by
  obtain ⟨f0, f1, s0, s1, hu, t0, t1, o0, o1, hu2, u0, u1, q0, q1⟩ := under_deskL
  obtain ⟨cd, ct, ci⟩ := cells_deskL
  rcases open_slice Tryd.underlying52 h with ⟨hc, _⟩ | ⟨a, len, cap, m, n, D, Pl, hc, _, hl, hm, hmm, _, hi⟩
  · obtain rfl : v = .slice none 0 0 := by simpa using hc
    exact ⟨[], ⟨none, 0, rfl, Nat.le_refl _, by unfold maxLen; omega, fun i x hx => by simp at hx⟩, fun x hx => by cases hx⟩
  · obtain rfl : v = .slice (some a) len cap := by simpa using hc
    have hspot : 0 < len → a.spot = none := by
      intro h0
      obtain ⟨cs', hcs, _⟩ := hi 0 (by rw [hmm]; split <;> omega)
      rw [cd] at hcs
      obtain ⟨_, hcl, hat⟩ := World.cells?_some hcs
      have g0 := hat 0 (by omega)
      rw [List.getElem?_eq_getElem (by omega)] at g0
      have := World.cell?_spot g0
      simpa [Addr.add] using this
    have key : ∀ i, i < len → ∃ x : Dk, DkWf x ∧ ∃ g o, some a = some ⟨g, o, none⟩ ∧
        W.cell? ⟨g, o + i * 3, none⟩ = some (.int .i8 x.1) ∧ W.cell? ⟨g, o + i * 3 + 1, none⟩ = some (.int .i8 x.2.1) ∧ W.cell? ⟨g, o + i * 3 + 2, none⟩ = some (.int .i8 x.2.2) := by
      intro i hlt
      have him : i < m := by rw [hmm]; split <;> omega
      obtain ⟨cs', hcs, ht⟩ := hi i him
      rw [cd] at hcs
      obtain ⟨_, hcl, hat⟩ := World.cells?_some hcs
      obtain ⟨y0, y1, n', _, _, h0, h1⟩ := trod_struct2 hu ht
      rw [t0, o0, ct] at h0
      rw [t1, o1, ci] at h1
      match cs', hcl with
      | [c0, c1, c2], _ =>
        obtain ⟨z0, z1, m', _, _, k0, k1⟩ := trod_struct2 hu2 h0
        rw [u0, q0, ci] at k0
        rw [u1, q1, ci] at k1
        obtain ⟨n0, e0, _, w0⟩ := DataW.trod_int Tryd.underlying22 k0
        obtain ⟨n1, e1, _, w1⟩ := DataW.trod_int Tryd.underlying22 k1
        obtain ⟨n2, e2, _, w2⟩ := DataW.trod_int Tryd.underlying22 h1
        simp only [List.drop_zero, List.drop_succ_cons, List.take_succ_cons, List.take_zero, List.cons.injEq, and_true] at e0 e1 e2
        subst e0 e1 e2
        have g0 := hat 0 (by omega)
        have g1 := hat 1 (by omega)
        have g2 := hat 2 (by omega)
        have hsp := hspot (by omega)
        obtain ⟨g, o, spot⟩ := a
        obtain rfl : spot = none := hsp
        simp only [addr_add, Nat.add_zero] at g0 g1 g2
        exact ⟨(n0, n1, n2), ⟨wf_i8 w0, wf_i8 w1, wf_i8 w2⟩, g, o, rfl, g0, g1, g2⟩
    obtain ⟨ws, hlen, hall⟩ := list_of len key
    subst hlen
    refine ⟨ws, ⟨some a, cap, rfl, hl, hm, fun i x hx => (hall i x hx).2⟩, fun x hx => ?_⟩
    obtain ⟨i, hi⟩ := List.mem_iff_getElem?.1 hx
    exact (hall i x hi).1

theorem toDk_any (x : Dk) (w : World) : Calls Tryd.prog 64 #[.agg (dkC x)] w fun e w' => e = .returned (.agg (dkC x)) ∧ Below w.heap.size w w' := toDesk_any x.1 x.2.1 x.2.2 w

theorem dk_fits (x : Dk) : 0 + 3 ≤ (dkC x).size := Nat.le_refl _

theorem dk_all (x : Dk) : (dkC x).extract 0 (0 + 3) = dkC x := rfl

theorem dk_one (x : Dk) : ∀ v ∈ dkC x, v.oneCell' = true := by
  intro v hv
  simp only [dkC, List.mem_toArray, List.mem_cons, List.not_mem_nil, or_false] at hv
  rcases hv with rfl | rfl | rfl <;> rfl

theorem dk_cells {x : Dk} {W : World} {g : Nat} {T : TypeId} {fr : Nat × Nat} (h : W.heap[g]? = some (.cells (dkC x) T fr)) :
    W.cell? ⟨g, 0, none⟩ = some (.int .i8 x.1) ∧ W.cell? ⟨g, 1, none⟩ = some (.int .i8 x.2.1) ∧ W.cell? ⟨g, 2, none⟩ = some (.int .i8 x.2.2) :=
  ⟨by rw [cell_of_row W _ _ _ _ _ h]; rfl, by rw [cell_of_row W _ _ _ _ _ h]; rfl, by rw [cell_of_row W _ _ _ _ _ h]; rfl⟩

theorem dk_at {W : World} {a : Option Addr} {n cap : Nat} {ws : List Dk} (h : DksAt W (.slice a n cap) ws) {k : Nat} {x : Dk} (hx : ws[k]? = some x) :
    ∃ g o, a = some ⟨g, o, none⟩ ∧ ∀ j v, (dkC x)[j]? = some v → W.cell? ⟨g, o + k * 3 + j, none⟩ = some v := by
  obtain ⟨a', cap', e, _, _, h4⟩ := h
  injection e with e1 e2 e3
  subst e1
  obtain ⟨g, o, rfl, c0, c1, c2⟩ := h4 k x hx
  refine ⟨g, o, rfl, fun j v hv => ?_⟩
  match j, hv with
  | 0, hv => simp [dkC] at hv; subst hv; exact c0
  | 1, hv => simp [dkC] at hv; subst hv; exact c1
  | 2, hv => simp [dkC] at hv; subst hv; exact c2
  | j + 3, hv => simp [dkC] at hv

theorem dks_len {W : World} {a : Option Addr} {n cap : Nat} {ws : List Dk} (h : DksAt W (.slice a n cap) ws) : n = ws.length ∧ n ≤ cap ∧ cap ≤ maxLen := by
  obtain ⟨a', cap', e, h2, h3, _⟩ := h
  injection e with e1 e2 e3
  subst e2; subst e3
  exact ⟨rfl, h2, h3⟩

def OwnDk (w : World) (b : Nat) (v : Value) (ws : List Dk) : Prop :=
  ∃ g cur, v = .slice (some ⟨g, 0, none⟩) ws.length ws.length ∧ b ≤ g ∧ w.heap[g]? = some (.cells cur 107 (0, 0)) ∧ cur.size = ws.length * 3 ∧ ws.length ≤ 1048576 ∧ ∀ k x, ws[k]? = some x → cur.extract (k * 3) (k * 3 + 3) = dkC x

theorem ownDk_below {w w' : World} {b B : Nat} {v : Value} {ws : List Dk} (h : OwnDk w b v ws) (hb : Below w.heap.size w w') (hB : B ≤ b) : OwnDk w' B v ws := by
  obtain ⟨g, cur, h1, h2, h3, h4, h5, h6⟩ := h
  exact ⟨g, cur, h1, by omega, below_row hb h3, h4, h5, h6⟩

theorem ownDk_at {w : World} {b : Nat} {v : Value} {ws : List Dk} (h : OwnDk w b v ws) : DksAt w v ws := by
  obtain ⟨g, cur, rfl, h2, h3, h4, h5, h6⟩ := h
  refine ⟨_, _, rfl, Nat.le_refl _, by unfold maxLen; omega, fun k x hx => ⟨g, 0, rfl, ?_, ?_, ?_⟩⟩
  all_goals
    have hk : k < ws.length := (List.getElem?_eq_some_iff.1 hx).1
    have he := h6 k x hx
    rw [cell_of_row w _ _ _ _ _ h3]
  · have : (cur.extract (k * 3) (k * 3 + 3))[0]? = some (.int .i8 x.1) := by rw [he]; rfl
    rw [Array.getElem?_extract] at this
    split at this
    · simpa using this
    · cases this
  · have : (cur.extract (k * 3) (k * 3 + 3))[1]? = some (.int .i8 x.2.1) := by rw [he]; rfl
    rw [Array.getElem?_extract] at this
    split at this
    · simpa using this
    · cases this
  · have : (cur.extract (k * 3) (k * 3 + 3))[2]? = some (.int .i8 x.2.2) := by rw [he]; rfl
    rw [Array.getElem?_extract] at this
    split at this
    · simpa using this
    · cases this

set_option maxRecDepth 100000 in
set_option maxHeartbeats 1000000 in
theorem szDeskS_any (a : Option Addr) (n cap : Nat) (left : Int) (hn : n ≤ 9223372036854775807) (h0 : 0 ≤ left) (h1 : left ≤ 1048576) (w : World) :
    Calls Tryd.prog 24 #[.slice a n cap, .int .i64 left] w fun e w' => e = .returned (.int .i64 (leftI n left)) ∧ w = w' := by
  unfold leftI
  by_cases h : left - (n : Int) < 0
  · rw [if_pos h]
    go_enter Tryd.func24, Tryd.ntmps24
    go_wp2
    go_ret
    exact ⟨rfl, rfl⟩
  · rw [if_neg h]
    go_enter Tryd.func24, Tryd.ntmps24
    go_wp2
    go_ret
    exact ⟨rfl, rfl⟩

theorem infoDkI : (Tryd.prog.info? 107).map (fun i => (i.zero, i.size, i.bytes)) = some (some (.agg #[.int .i8 0, .int .i8 0, .int .i8 0]), 3, 3) := by kernel_rfl

theorem make_dks (n : Nat) (hn : n ≤ 1048576) (w : World) : (Instr.makeSlice 56 (.int .i64 (n : Int)) (.int .i64 (n : Int))).run Tryd.prog w = .ok (.slice (some ⟨w.heap.size, 0, none⟩) n n) (w.alloc (.cells (madeCells #[.int .i8 0, .int .i8 0, .int .i8 0] (n * 3)) 107)) := by
  obtain ⟨i0, hi, hz0, hz1, hz2⟩ := info_parts infoDkI
  have h := run_make (P := Tryd.prog) w 56 107 i0 _ Tryd.underlying56 hi hz0 .i64 .i64 (n : Int) (n : Int) (by omega) (Int.le_refl _) (by rw [hz2]; omega) (by omega)
  rw [hz1] at h
  simpa [Value.cells] using h

def RetDk (w : World) (ws : List Dk) (e : Ending) (w' : World) : Prop := (∃ v, e = .returned v ∧ OwnDk w' w.heap.size v ws) ∧ Below w.heap.size w w'

set_option maxRecDepth 100000 in
set_option maxHeartbeats 1000000 in
theorem toDeskS_any (sv : Value) (ws : List Dk) (hlen : ws.length ≤ 1048576) (w : World) (hws : DksAt w sv ws) :
    Calls Tryd.prog 26 #[sv] w fun e w' => RetDk w ws e w' := by
  have HW := Lib.hid hws
  obtain ⟨a, cap, rfl, hl1, hl2, _⟩ := hws
  unfold maxLen at hl2
  generalize hn : ws.length = n at *
  have HN := Lib.hid hn
  have hmk := fun w => make_dks n hlen w
  clear hn
  go_enter Tryd.func26, Tryd.ntmps26
  go_wp2
  go_loopw [4] (fun i wr => ∃ k : Nat, k ≤ n ∧ i = .int .i64 k ∧ Below w.heap.size w wr ∧ ∃ cur, wr.heap[w.heap.size]? = some (.cells cur 107 (0, 0)) ∧ cur.size = n * 3 ∧ ∀ j x, j < k → ws[j]? = some x → cur.extract (j * 3) (j * 3 + 3) = dkC x) (fun i _ => n - (intOf i).toNat)
  case atStart => exact ⟨0, Nat.zero_le _, rfl, (Below.refl _ _).alloc (Nat.le_refl _) _, _, heap_alloc_new _ _, size_madeCells _ _, fun j x hj => by omega⟩
  case round =>
    clear hmk
    obtain ⟨k, hk, rfl, hb, cur, hg, hs, hp⟩ := hrel
    have HP := Lib.hid hp
    have HG := Lib.hid hg
    have hgl := row_lt hg
    clear hp hg
    by_cases hlt : k < n
    · have hx : ws[k]? = some (ws[k]'(by rw [HN.out]; exact hlt)) := List.getElem?_eq_getElem _
      obtain ⟨g, o, rfl, hc⟩ := dk_at (dks_below HW.out hb) hx
      have HC := Lib.hid hc
      generalize (ws[k]'(by rw [HN.out]; exact hlt)) = x at *
      have HX := Lib.hid hx
      have hks : k * 3 + 3 ≤ cur.size := by omega
      have z1 : (k : Int) < (n : Int) := by omega
      have z2 : (0 : Int) ≤ (k : Int) := by omega
      clear hc hx
      go_wp2_with (first | (refine wpList_load_cells rfl 113 _ rfl g (o + k * 3) 3 rfl _ Tryd.underlying113 rfl info_deskL (dkC x) rfl HC.out ?_) | (go_at_call 64; refine (toDk_any _ _).mono ?_; rintro e W1 ⟨rfl, hb1⟩) | (refine wpList_store_part rfl 107 _ _ rfl w.heap.size (k * 3) (dkC x) rfl rfl 107 cur (below_row hb1 HG.out) (by kernel_rfl) hks (dk_one _) ?_))
      go_roundw
      case rel =>
        refine ⟨k + 1, by omega, by go_num, below_setRow (hb.trans (hb1.mono hb.size)) (Nat.le_refl _) _, _, setRow_heap _ _ _ _ _ _ (below_row hb1 HG.out), by rw [laid_size _ _ _ hks]; exact hs, fun j y hj hy => ?_⟩
        by_cases e : j = k
        · subst e
          rw [HX.out] at hy
          obtain rfl := Option.some.inj hy
          exact laid_here cur (dkC x) (j * 3) hks
        · rw [laid_there cur (dkC x) (k * 3) (j * 3) 3 hks (by omega)]
          exact HP.out j y (by omega) hy
      case measure => simp [intOf]; omega
    · obtain rfl : k = n := by omega
      have HR : Hid (OwnDk wr w.heap.size (.slice (some ⟨w.heap.size, 0, none⟩) k k) ws) := by
        refine ⟨_, cur, by rw [HN.out], Nat.le_refl _, HG.out, by rw [HN.out]; exact hs, by rw [HN.out]; exact hlen, fun j x hx => ?_⟩
        have := (List.getElem?_eq_some_iff.1 hx).1
        exact HP.out j x (by have := HN.out; omega) hx
      go_wp2
      go_ret
      exact ⟨⟨_, rfl, HR.out⟩, hb⟩

set_option maxRecDepth 100000 in
set_option maxHeartbeats 4000000 in
theorem eqTile_anyD (p q : Int) (w : World) : Calls Tryd.prog 15 #[.agg (tileC p q), .agg (tileC p q)] w fun e w' => e = .returned (.bool true) ∧ Below w.heap.size w w' := by
  have z1 : (p != p) = false := by simp
  have z2 : (q != q) = false := by simp
  have HA := Lib.hid (two_at w (.cells (tileC p q) 28) (.cells (tileC p q) 28))
  go_enter Tryd.func15, Tryd.ntmps15
  go_upto_region 1 with (fail)
  refine abs_world (fun W => W.heap[w.heap.size]? = some (.cells (tileC p q) 28 (0, 0)) ∧ W.heap[w.heap.size + 1]? = some (.cells (tileC p q) 28 (0, 0)) ∧ Below w.heap.size w W) HA.out ?_
  clear HA
  rintro W ⟨h0, h1, hb⟩
  obtain ⟨k0, k1⟩ := tile_cells h0
  obtain ⟨p0, p1⟩ := tile_cells h1
  clear h0 h1
  go_wp2
  go_ret
  exact ⟨rfl, hb⟩

set_option maxRecDepth 100000 in
set_option maxHeartbeats 4000000 in
theorem eqDk_any (x : Dk) (w : World) : Calls Tryd.prog 66 #[.agg (dkC x), .agg (dkC x)] w fun e w' => e = .returned (.bool true) ∧ Below w.heap.size w w' := by
  show Calls Tryd.prog 66 #[.agg (deskC x.1 x.2.1 x.2.2), .agg (deskC x.1 x.2.1 x.2.2)] w fun e w' => e = .returned (.bool true) ∧ Below w.heap.size w w'
  have HA := Lib.hid (two_at w (.cells (deskC x.1 x.2.1 x.2.2) 107) (.cells (deskC x.1 x.2.1 x.2.2) 107))
  go_enter Tryd.func66, Tryd.ntmps66
  go_upto_region 1 with (fail)
  refine abs_world (fun W => W.heap[w.heap.size]? = some (.cells (deskC x.1 x.2.1 x.2.2) 107 (0, 0)) ∧ W.heap[w.heap.size + 1]? = some (.cells (deskC x.1 x.2.1 x.2.2) 107 (0, 0)) ∧ Below w.heap.size w W) HA.out ?_
  clear HA
  rintro W ⟨h0, h1, hb⟩
  have n01 : w.heap.size < w.heap.size + 1 := by omega
  generalize w.heap.size + 1 = b1 at *
  have k2 := (desk_cells h0).2.2
  have p2 := (desk_cells h1).2.2
  have z3 : (x.2.2 != x.2.2) = false := by simp
  have H0 := Lib.hid h0
  have H1 := Lib.hid h1
  clear h0 h1
  go_wp2_with (first | (refine wpList_load_partG 28 _ rfl w.heap.size 0 2 rfl rfl 107 (deskC x.1 x.2.1 x.2.2) (0, 0) _ H0.out Tryd.underlying28 rfl info_tile (desk_fits2 _ _ _) _ (desk_tile _ _ _) ?_) | (refine wpList_load_partG 28 _ rfl b1 0 2 rfl rfl 107 (deskC x.1 x.2.1 x.2.2) (0, 0) _ H1.out Tryd.underlying28 rfl info_tile (desk_fits2 _ _ _) _ (desk_tile _ _ _) ?_) | (go_at_call 15; refine (eqTile_anyD _ _ _).mono ?_; rintro e W1 ⟨rfl, hb1⟩; replace k2 := cell_belowB hb1 k2; replace p2 := cell_belowB hb1 p2; replace hb := hb.trans (hb1.mono hb.size); clear hb1))
  go_ret
  exact ⟨rfl, hb⟩

set_option maxRecDepth 100000 in
set_option maxHeartbeats 1000000 in
theorem eqDeskS_any (v1 v2 : Value) (ws : List Dk) (w : World) (hv1 : DksAt w v1 ws) (hv2 : DksAt w v2 ws) :
    Calls Tryd.prog 28 #[v1, v2] w fun e w' => e = .returned (.bool true) ∧ Below w.heap.size w w' := by
  have HW1 := Lib.hid hv1
  have HW2 := Lib.hid hv2
  obtain ⟨a1, c1, rfl, hl1, hm1, _⟩ := hv1
  obtain ⟨a2, c2, rfl, hl2, hm2, _⟩ := hv2
  unfold maxLen at hm1 hm2
  generalize hn : ws.length = n at *
  have HN := Lib.hid hn
  have zn : ((n : Int) != (n : Int)) = false := by simp
  clear hn
  go_enter Tryd.func28, Tryd.ntmps28
  go_wp2
  go_loopw [5] (fun i wr => ∃ k : Nat, k ≤ n ∧ i = .int .i64 k ∧ Below w.heap.size w wr) (fun i _ => n - (intOf i).toNat)
  case atStart => exact ⟨0, Nat.zero_le _, rfl, Below.refl _ _⟩
  case round =>
    obtain ⟨k, hk, rfl, hb⟩ := hrel
    by_cases hlt : k < n
    · have hx : ws[k]? = some (ws[k]'(by rw [HN.out]; exact hlt)) := List.getElem?_eq_getElem _
      obtain ⟨g1, o1, rfl, hc1⟩ := dk_at (dks_below HW1.out hb) hx
      obtain ⟨g2, o2, rfl, hc2⟩ := dk_at (dks_below HW2.out hb) hx
      have HC1 := Lib.hid hc1
      have HC2 := Lib.hid hc2
      generalize (ws[k]'(by rw [HN.out]; exact hlt)) = x at *
      have z1 : (k : Int) < (n : Int) := by omega
      have z2 : (0 : Int) ≤ (k : Int) := by omega
      have z3 : decide ((k : Int) < (n : Int)) = true := decide_eq_true z1
      clear hc1 hc2 hx
      go_wp2
      refine wp_region_held_drew (S := (fun W => (∀ j v, (dkC x)[j]? = some v → W.cell? ⟨g1, o1 + k * 3 + j, none⟩ = some v) ∧ (∀ j v, (dkC x)[j]? = some v → W.cell? ⟨g2, o2 + k * 3 + j, none⟩ = some v) ∧ Below w.heap.size w W)) (by kernel_rfl) ⟨HC1.out, HC2.out, hb.drew⟩ (fun hHeld => ?_)
      refine take_op (i := 0) (d := 17) (v := ?_) rfl rfl (by kernel_rfl) (by kernel_rfl) (by kernel_rfl) (fun _ _ _ h => h) (Or.inl ⟨by rfl, ?hy0u1⟩) hHeld ?rest0u1
      case hy0u1 =>
        intro w' hS'
        go_simp
        try with_reducible rfl
      simp only [List.setIfInBounds_toArray, List.set_cons_zero, List.set_cons_succ]
      refine take_op (i := 1) (d := 18) (v := ?_) rfl rfl (by kernel_rfl) (by kernel_rfl) (by kernel_rfl) (fun _ _ _ h => h) (Or.inl ⟨by rfl, ?hy1u2⟩) hHeld ?rest1u2
      case hy1u2 =>
        intro w' hS'
        go_simp
        try with_reducible rfl
      simp only [List.setIfInBounds_toArray, List.set_cons_zero, List.set_cons_succ]
      refine take_op (i := 2) (d := 19) (v := ?_) rfl rfl (by kernel_rfl) (by kernel_rfl) (by kernel_rfl) (fun _ _ _ h => h) (Or.inl ⟨by rfl, ?hy2u3⟩) hHeld ?rest2u3
      case hy2u3 =>
        intro w' hS'
        go_simp
        try with_reducible rfl
      simp only [List.setIfInBounds_toArray, List.set_cons_zero, List.set_cons_succ]
      refine take_op (i := 3) (d := 20) (v := .agg (dkC x)) rfl rfl (by kernel_rfl) (by kernel_rfl) (by kernel_rfl) (fun _ _ _ h => h) (yields_cells (by rfl) 107 (.tmp 19) (by rfl) g1 (o1 + k * 3) 3 (by rfl) _ Tryd.underlying107 rfl info_desk (dkC x) rfl (fun W h => h.1)) hHeld ?_
      simp only [List.setIfInBounds_toArray, List.set_cons_zero, List.set_cons_succ]
      refine take_op (i := 4) (d := 21) (v := ?_) rfl rfl (by kernel_rfl) (by kernel_rfl) (by kernel_rfl) (fun _ _ _ h => h) (Or.inl ⟨by rfl, ?hy4u4⟩) hHeld ?rest4u4
      case hy4u4 =>
        intro w' hS'
        go_simp
        try with_reducible rfl
      simp only [List.setIfInBounds_toArray, List.set_cons_zero, List.set_cons_succ]
      refine take_op (i := 5) (d := 22) (v := ?_) rfl rfl (by kernel_rfl) (by kernel_rfl) (by kernel_rfl) (fun _ _ _ h => h) (Or.inl ⟨by rfl, ?hy5u5⟩) hHeld ?rest5u5
      case hy5u5 =>
        intro w' hS'
        go_simp
        try with_reducible rfl
      simp only [List.setIfInBounds_toArray, List.set_cons_zero, List.set_cons_succ]
      refine take_op (i := 6) (d := 23) (v := ?_) rfl rfl (by kernel_rfl) (by kernel_rfl) (by kernel_rfl) (fun _ _ _ h => h) (Or.inl ⟨by rfl, ?hy6u6⟩) hHeld ?rest6u6
      case hy6u6 =>
        intro w' hS'
        go_simp
        try with_reducible rfl
      simp only [List.setIfInBounds_toArray, List.set_cons_zero, List.set_cons_succ]
      refine take_op (i := 7) (d := 24) (v := .agg (dkC x)) rfl rfl (by kernel_rfl) (by kernel_rfl) (by kernel_rfl) (fun _ _ _ h => h) (yields_cells (by rfl) 107 (.tmp 23) (by rfl) g2 (o2 + k * 3) 3 (by rfl) _ Tryd.underlying107 rfl info_desk (dkC x) rfl (fun W h => h.2.1)) hHeld ?_
      simp only [List.setIfInBounds_toArray, List.set_cons_zero, List.set_cons_succ]
      refine wpAnyH_ready (rs := [8]) (by kernel_rfl) (by simp) ?_
      refine AllReadyH.cons rfl (fun K hK => ?_) AllReadyH.nil
      go_simp
      refine (eqDk_any x _).mono ?_
      rintro e W1 ⟨rfl, hb1⟩
      refine hK.out _ _ (⟨fun j v h => cell_below hb1 (hHeld.1 j v h), fun j v h => cell_below hb1 (hHeld.2.1 j v h), hHeld.2.2.trans (hb1.mono hHeld.2.2.size)⟩) (fun hHeld2 => ?_)
      clear hK K
      replace hHeld := hHeld2
      clear hHeld2
      refine take_op (i := 9) (d := 26) (v := ?_) rfl rfl (by kernel_rfl) (by kernel_rfl) (by kernel_rfl) (fun _ _ _ h => h) (Or.inl ⟨by rfl, ?hy9u7⟩) hHeld ?rest9u7
      case hy9u7 =>
        intro w' hS'
        go_simp
        try with_reducible rfl
      simp only [List.setIfInBounds_toArray, List.set_cons_zero, List.set_cons_succ]
      refine wpAnyH_done (by kernel_rfl) ?_ _
      have hbx := hHeld.2.2
      clear hHeld hb
      go_wp2
      go_roundw
      case rel => exact ⟨k + 1, by omega, by go_num, hbx⟩
      case measure => simp [intOf]; omega
    · obtain rfl : k = n := by omega
      go_wp2
      go_ret
      exact ⟨rfl, hb⟩

end Go.Proofs.YtdccmdcgbembpaaDoor

namespace Go.Proofs.YtdccmdcgbembpaaDoor
open Go.RowKit

attribute [local go_sem] run_store_f

/-- Is a desk one of a room's? -/
def fitD (wd hg : Int) (x : Dk) : Bool := isD wd hg x.1 x.2.1 x.2.2

theorem isDk_any (wd hg : Int) (sv : Value) (x : Dk) (w : World) : Calls Tryd.prog 115 #[.agg (roomC wd hg sv), .agg (dkC x)] w fun e w' => e = .returned (.bool (fitD wd hg x)) ∧ Below w.heap.size w w' := isDesk_any wd hg x.1 x.2.1 x.2.2 sv w

set_option maxRecDepth 100000 in
set_option maxHeartbeats 1000000 in
theorem deskFn_any (wd hg : Int) (sv : Value) (x : Dk) (gb : Nat) (w : World) (hb0 : w.heap[gb]? = some (.cells (roomC wd hg sv) 34 (0, 0))) :
    Calls Tryd.prog 114 #[.agg (dkC x), .pointer (some ⟨gb, 0, none⟩)] w fun e w' => e = .returned (.bool (!fitD wd hg x)) ∧ Below w.heap.size w w' := by
  have hl := row_lt hb0
  have H0 := Lib.hid hb0
  clear hb0
  go_enter Tryd.func114, Tryd.ntmps114
  go_upto_region 1 with (fail)
  refine abs_world (fun W => Below w.heap.size w W ∧ W.heap[w.heap.size]? = some (.cells (dkC x) 107 (0, 0))) ⟨(Below.refl _ _).alloc (Nat.le_refl _) _, heap_alloc_new _ _⟩ ?_
  rintro W ⟨hb, h1⟩
  replace H0 := Lib.hid (below_row hb H0.out)
  have H1 := Lib.hid h1
  clear h1
  go_wp2_with (first | (refine wpList_load_part rfl 34 _ rfl gb 0 3 rfl 34 (roomC wd hg sv) (0, 0) _ H0.out Tryd.underlying34 rfl info_room (room_fits _ _ _) _ (room_all _ _ _) ?_) | (refine wpList_load_part rfl 107 _ rfl w.heap.size 0 3 rfl 107 (dkC x) (0, 0) _ H1.out Tryd.underlying107 rfl info_desk (dk_fits _) _ (dk_all _) ?_) | (go_at_call 115; refine (isDk_any wd hg sv x _).mono ?_; rintro e W1 ⟨rfl, hb1⟩))
  go_ret
  exact ⟨rfl, hb.trans (hb1.mono hb.size)⟩

/-- What looking for a window that does not fit finds. -/
def FoundDk (wd hg : Int) (ws : List Dk) (w : World) (e : Ending) (w' : World) : Prop := ∃ r : Int, e = .returned (.int .i64 r) ∧ decide (0 ≤ r) = !ws.all (fitD wd hg) ∧ Below w.heap.size w w'

set_option maxRecDepth 100000 in
set_option maxHeartbeats 1000000 in
theorem indexDk_any (wd hg : Int) (sv dv : Value) (ws : List Dk) (gb : Nat) (w : World) (hb0 : w.heap[gb]? = some (.cells (roomC wd hg sv) 34 (0, 0))) (hws : DksAt w dv ws) :
    Calls Tryd.prog 138 #[dv, .func (.func 114) #[] #[.pointer (some ⟨gb, 0, none⟩)]] w fun e w' => FoundDk wd hg ws w e w' := by
  have hws' := hws
  obtain ⟨a, cap, rfl, hl1, hl2, _⟩ := hws'
  have HW := Lib.hid hws
  have H0 := Lib.hid hb0
  clear hws hb0
  unfold maxLen at hl2
  generalize hn : ws.length = n at *
  go_enter Tryd.func138, Tryd.ntmps138
  go_wp2
  go_loopw [8] (fun i wr => ∃ k : Nat, k ≤ n ∧ i = .int .i64 k ∧ Below w.heap.size w wr ∧ (ws.take k).all (fitD wd hg) = true) (fun i _ => n - (intOf i).toNat)
  case atStart => exact ⟨0, Nat.zero_le _, rfl, Below.refl _ _, rfl⟩
  case round =>
    obtain ⟨k, hk, rfl, hb, hall⟩ := hrel
    have HA := Lib.hid hall
    clear hall
    by_cases hlt : k < n
    · have hx : ws[k]? = some ws[k] := List.getElem?_eq_getElem (by omega)
      obtain ⟨g, o, rfl, hc⟩ := dk_at (dks_below HW.out hb) hx
      have HC := Lib.hid hc
      have hts : ws.take (k + 1) = ws.take k ++ [ws[k]] := by rw [List.take_succ_eq_append_getElem (by omega)]
      have HT := Lib.hid hts
      have hdx := HW.out
      generalize ws[k] = x at *
      have HD : Hid (ws[k]? = some x) := Lib.hid hx
      replace H0 := Lib.hid (below_row hb H0.out)
      have z1 : (k : Int) < (n : Int) := by omega
      have z2 : (0 : Int) ≤ (k : Int) := by omega
      clear hc hts hx hdx
      cases hf : fitD wd hg x with
      | true =>
        have hnf : (!fitD wd hg x) = false := by rw [hf]; rfl
        go_wp2_with (first | (refine wpList_load_cells rfl 107 _ rfl g (o + k * 3) 3 rfl _ Tryd.underlying107 rfl info_desk (dkC x) rfl HC.out ?_) | (go_at_call 114; refine (deskFn_any wd hg _ x gb _ H0.out).mono ?_; rw [hnf]; rintro e W1 ⟨rfl, hb1⟩))
        go_roundw
        case rel => exact ⟨k + 1, by omega, by go_num, hb.trans (hb1.mono hb.size), by rw [HT.out, List.all_append, HA.out]; simp [hf]⟩
        case measure => simp [intOf]; omega
      | false =>
        have hnf : (!fitD wd hg x) = true := by rw [hf]; rfl
        go_wp2_with (first | (refine wpList_load_cells rfl 107 _ rfl g (o + k * 3) 3 rfl _ Tryd.underlying107 rfl info_desk (dkC x) rfl HC.out ?_) | (go_at_call 114; refine (deskFn_any wd hg _ x gb _ H0.out).mono ?_; rw [hnf]; rintro e W1 ⟨rfl, hb1⟩))
        go_ret
        refine ⟨k, rfl, ?_, hb.trans (hb1.mono hb.size)⟩
        have hmem := List.mem_of_getElem? HD.out
        have hall : ws.all (fitD wd hg) = false := by
          rw [Bool.eq_false_iff]
          intro ha
          have := List.all_eq_true.1 ha x hmem
          rw [hf] at this; cases this
        rw [hall]; simp
    · obtain rfl : k = n := by omega
      go_wp2
      go_ret
      refine ⟨-1, rfl, ?_, hb⟩
      have hall := HA.out
      rw [List.take_of_length_le (by omega)] at hall
      rw [hall]; rfl

set_option maxRecDepth 100000 in
set_option maxHeartbeats 1000000 in
theorem containsDk_any (wd hg : Int) (sv dv : Value) (ws : List Dk) (gb : Nat) (w : World) (hb0 : w.heap[gb]? = some (.cells (roomC wd hg sv) 34 (0, 0))) (hws : DksAt w dv ws) :
    Calls Tryd.prog 113 #[dv, .func (.func 114) #[] #[.pointer (some ⟨gb, 0, none⟩)]] w fun e w' => e = .returned (.bool (!ws.all (fitD wd hg))) ∧ Below w.heap.size w w' := by
  have HC := indexDk_any wd hg sv dv ws gb w hb0 hws
  clear hb0 hws
  go_enter Tryd.func113, Tryd.ntmps113
  go_wp2_with (go_at_call 138; refine HC.mono ?_; rintro e W1 ⟨r, rfl, hd, hb1⟩)
  go_ret
  first | exact ⟨ret_boolR hd, hb1⟩ | exact ⟨rfl, hb1⟩

set_option maxRecDepth 100000 in
set_option maxHeartbeats 4000000 in
theorem areDesks_any (wd hg : Int) (sv dv : Value) (ds : List Dk) (w : World) (hds : DksAt w dv ds) :
    Calls Tryd.prog 65 #[.agg (roomC wd hg sv), dv] w fun e w' => e = .returned (.bool (ds.all (fitD wd hg))) ∧ Below w.heap.size w w' := by
  have HD := Lib.hid hds
  have HCC := Lib.hid (fun gb W h => containsDk_any wd hg sv dv ds gb W h)
  generalize ds.all (fitD wd hg) = ok at *
  clear hds
  go_enter Tryd.func65, Tryd.ntmps65
  go_upto_region 1 with (fail)
  refine abs_world (fun W => Below w.heap.size w W ∧ W.heap[w.heap.size]? = some (.cells (roomC wd hg sv) 34 (0, 0))) ⟨(Below.refl _ _).alloc (Nat.le_refl _) _, heap_alloc_new _ _⟩ ?_
  rintro W ⟨hb, h1⟩
  have HC := Lib.hid (HCC.out w.heap.size W h1 (dks_below HD.out hb))
  clear h1 HD HCC
  go_wp2_with (go_at_call 113; refine HC.out.mono ?_; rintro e W1 ⟨rfl, hb1⟩)
  go_ret
  first | exact ⟨rfl, hb.trans (hb1.mono hb.size)⟩ | exact ⟨ret_boolR (Bool.not_not _), hb.trans (hb1.mono hb.size)⟩ | exact ⟨ret_boolR (by cases ok <;> rfl), hb.trans (hb1.mono hb.size)⟩

end Go.Proofs.YtdccmdcgbembpaaDoor

namespace Go.Proofs.YtdccmdcgbembpaaDoor
open Go.RowKit Go.Shelf

attribute [local go_sem] Oper.semAt_some run_store_floatE

def sumM (g : Nat → Nat) (k : Nat) : Nat := (List.range k).foldl (fun s i => fadd s (g i)) 0

theorem sumM_succ (g : Nat → Nat) (k : Nat) : sumM g (k + 1) = fadd (sumM g k) (g k) := by simp [sumM, List.range_succ]

def capM (k : Nat) : Nat := floatOfInt .f32 ((12 * k : Nat) : Int)

theorem capM_dec : ∀ k : Nat, k < 101 → capM k < 2139095040 ∧ fadd (capM k) (floatOfInt .f32 (12 : Int)) = capM (k + 1) := by decide +kernel

theorem cap12 : floatOfInt .f32 (12 : Int) < 2139095040 := by decide +kernel

theorem sumM_step {s x k : Nat} (hs : s ≤ capM k) (hk : k < 100) (hx : x ≤ floatOfInt .f32 (12 : Int)) : floatBits .add .f32 s x = some (fadd s x) ∧ fadd s x ≤ capM (k + 1) := by
  obtain ⟨c1, c2⟩ := capM_dec k (by omega)
  have h12 := cap12
  exact ⟨(add_rnd (by omega) (by omega)).1, by rw [← c2]; exact add_mono c1 h12 hs hx⟩

theorem sumM_cap (g : Nat → Nat) : ∀ k, k ≤ 100 → (∀ j, j < k → g j ≤ floatOfInt .f32 (12 : Int)) → sumM g k ≤ capM k
  | 0, _, _ => by show (0 : Nat) ≤ _; exact Nat.zero_le _
  | k + 1, hk, h => by
    rw [sumM_succ]
    exact (sumM_step (sumM_cap g k (by omega) (fun j hj => h j (by omega))) (by omega) (h k (by omega))).2

def meanM (s n : Nat) : Nat := fdiv s (floatOfInt .f32 ((n : Nat) : Int))

theorem meanM_ok {s k n : Nat} (hs : s ≤ capM k) (hk : k ≤ 100) (h0 : 0 < n) (h1 : n ≤ 100) : floatBits .quo .f32 s (floatOfInt .f32 ((n : Nat) : Int)) = some (meanM s n) ∧ fin32 (meanM s n) = true := by
  obtain ⟨c1, _⟩ := capM_dec k (by omega)
  obtain ⟨m, rfl⟩ : ∃ m, n = m + 1 := ⟨n - 1, by omega⟩
  obtain ⟨d1, d2⟩ := whole_nat m (by omega)
  have e : ((m + 1 : Nat) : Int) = (m : Int) + 1 := by omega
  unfold meanM
  rw [e]
  refine ⟨(div_rnd (by omega) d1 (by omega)).1, fin_of_lt (Nat.lt_of_le_of_lt (div_mono (x := s) (X := capM k) (Y := 1065353216) c1 d1 (by decide) hs d2) ?_)⟩
  have h : ∀ k : Nat, k < 101 → fdiv (capM k) 1065353216 < 2139095040 := by decide +kernel
  exact h k (by omega)

theorem mpK_get (g : Int × Int → Nat) (W H : Nat) {x y : Nat} (hW1 : W ≤ 10) (hH1 : H ≤ 10) (hx : x < W) (hy : y < H) : (mpK g W H (W * H))[y * 10 + x]?.getD 0 = g ((x : Int), (y : Int)) := by
  have e1 : (y * 10 + x) % 10 = x := by omega
  have e2 : (y * 10 + x) / 10 = y := by omega
  have hk : y * W + x < W * H := by
    have h2 : (y + 1) * W ≤ H * W := Nat.mul_le_mul_right W (by omega)
    rw [Nat.add_mul, Nat.one_mul] at h2
    rw [Nat.mul_comm W H]
    omega
  unfold mpK
  rw [List.getElem?_map, List.getElem?_range (by omega : y * 10 + x < 100)]
  simp only [Option.map_some, Option.getD_some, e1, e2]
  rw [if_pos ⟨hx, hy, hk⟩]

def MnI (W H : Nat) (hW : 0 < W) (hH : 0 < H) (gk : Nat → Nat) (w : World) (sv : Value) (b5 b6 gb : Nat) (mp : List Nat) (pre : List (Tt W H)) (V : World) : Prop :=
  ∃ s : Nat, s ≤ capM pre.length ∧ V.heap[w.heap.size]? = some (.cells (roomC (W : Int) (H : Int) sv) 34 (0, 0)) ∧ V.heap[b5]? = some (.cells (mpC mp) 94 (0, 0)) ∧ V.heap[b6]? = some (.cells #[.float .f32 s] 29 (0, 0)) ∧ V.heap[gb]? = some (.cells (roomC (W : Int) (H : Int) sv) 34 (0, 0)) ∧ (GoodT W H hW hH pre → s = sumM gk pre.length) ∧ Below w.heap.size w V

theorem mnI_own (W H : Nat) (hW : 0 < W) (hH : 0 < H) (gk : Nat → Nat) (w : World) (sv : Value) (b5 b6 gb : Nat) (mp : List Nat) (B : Nat) (hB : w.heap.size ≤ B) : OwnFrom B (MnI W H hW hH gk w sv b5 b6 gb mp) := by
  intro s V V' row ⟨xs, hx, h0, h1, h2, h3, hg, hb⟩ hg' hr
  have hr2 := fun r e => (hr r e).2
  exact ⟨xs, hx, heap_keptWE h0 hg' hr2, heap_keptWE h1 hg' hr2, heap_keptWE h2 hg' hr2, heap_keptWE h3 hg' hr2, hg, ownFrom_below (β := Unit) (Nat.le_refl _) hB () V V' row hb hg' hr⟩

end Go.Proofs.YtdccmdcgbembpaaDoor

namespace Go.Proofs.YtdccmdcgbembpaaDoor
open Go.RowKit Go.Shelf

attribute [local go_sem] Oper.semAt_some run_store_floatE

def u16s (xs : List Int) : Array Value := (xs.map (Value.int .u16)).toArray

theorem u16s_size (xs : List Int) : (u16s xs).size = xs.length := by simp [u16s]

theorem u16s_cell {V : World} {g : Nat} {xs : List Int} {t : TypeId} {fr : Nat × Nat} (hg : V.heap[g]? = some (.cells (u16s xs) t fr)) (k : Nat) (h : k < xs.length) : V.cell? ⟨g, k, none⟩ = some (.int .u16 (xs[k]?.getD 0)) := by
  rw [cell_of_row V _ _ _ _ _ hg]
  simp [u16s, h]

theorem u16s_set (xs : List Int) (k : Nat) (n : Int) : (u16s xs).setIfInBounds k (.int .u16 n) = u16s (xs.set k n) := by
  apply Array.ext'
  simp [u16s, List.map_set]

theorem u16s_one (xs : List Int) : ∀ v ∈ u16s xs, v.oneCell' = true := by
  intro v hv
  simp only [u16s, List.mem_toArray, List.mem_map] at hv
  obtain ⟨x, _, rfl⟩ := hv
  rfl

theorem u16s_all (xs : List Int) (n : Nat) (h : xs.length = n) : (u16s xs).extract 0 (0 + n) = u16s xs := by
  rw [Nat.zero_add, ← h, ← u16s_size, Array.extract_size]

theorem info_u16 : (Tryd.prog.info? 42).map (·.size) = some 10 := by kernel_rfl

def zU : List Int := [0, 0, 0, 0, 0, 0, 0, 0, 0, 0]

theorem zU_len : zU.length = 10 := rfl

/-- The bits of lit tiles, as far as they have been looked at. -/
def litN (P : Nat → Bool) (W : Nat) : Nat → List Int
  | 0 => zU
  | k + 1 => if P k then (litN P W k).set (k / W) (bits .or .u16 ((litN P W k)[k / W]?.getD 0) ((2 : Int) ^ (k % W))) else litN P W k

theorem litN_len (P : Nat → Bool) (W : Nat) : ∀ k, (litN P W k).length = 10
  | 0 => rfl
  | k + 1 => by
    rw [litN]
    split
    · rw [List.length_set]; exact litN_len P W k
    · exact litN_len P W k

theorem litN_at {P : Nat → Bool} {W x y : Nat} (hW : 0 < W) (hx : x < W) : litN P W (y * W + x + 1) = if P (y * W + x) then (litN P W (y * W + x)).set y (bits .or .u16 ((litN P W (y * W + x))[y]?.getD 0) ((2 : Int) ^ x)) else litN P W (y * W + x) := by
  have e1 : (y * W + x) % W = x := by rw [Nat.mul_comm, Nat.mul_add_mod]; exact Nat.mod_eq_of_lt hx
  have e2 : (y * W + x) / W = y := by rw [Nat.mul_comm, Nat.mul_add_div hW, Nat.div_eq_of_lt hx, Nat.add_zero]
  rw [litN, e1, e2]

/-- Whether a light is enough. -/
def enB (least x : Nat) : Bool := FloatKind.f32.format.order x least == some .gt || FloatKind.f32.format.order x least == some .eq

theorem pow16 {x : Nat} (h : x < 10) : IntKind.u16.wrap ((2 : Int) ^ x) = (2 : Int) ^ x := by
  have h2 : ∀ x : Nat, x < 10 → IntKind.u16.wrap ((2 : Int) ^ x) = (2 : Int) ^ x := by decide +kernel
  exact h2 x h

def LtI (W H : Nat) (hW : 0 < W) (hH : 0 < H) (P : Nat → Bool) (w : World) (sv : Value) (le : Nat) (b3 b4 b5 b6 gb : Nat) (mp : List Nat) (pre : List (Tt W H)) (V : World) : Prop :=
  ∃ xs : List Int, xs.length = 10 ∧ V.heap[w.heap.size]? = some (.cells (roomC (W : Int) (H : Int) sv) 34 (0, 0)) ∧ V.heap[b3]? = some (.cells #[.float .f32 le] 29 (0, 0)) ∧ V.heap[b4]? = some (.cells (u16s zU) 42 (0, 0)) ∧ V.heap[b5]? = some (.cells (mpC mp) 94 (0, 0)) ∧ V.heap[b6]? = some (.cells (u16s xs) 42 (0, 0)) ∧ V.heap[gb]? = some (.cells (roomC (W : Int) (H : Int) sv) 34 (0, 0)) ∧ (GoodT W H hW hH pre → xs = litN P W pre.length) ∧ Below w.heap.size w V

theorem ltI_own (W H : Nat) (hW : 0 < W) (hH : 0 < H) (P : Nat → Bool) (w : World) (sv : Value) (le : Nat) (b3 b4 b5 b6 gb : Nat) (mp : List Nat) (B : Nat) (hB : w.heap.size ≤ B) : OwnFrom B (LtI W H hW hH P w sv le b3 b4 b5 b6 gb mp) := by
  intro s V V' row ⟨xs, hx, h0, h1, h2, h3, h4, h5, hg, hb⟩ hg' hr
  have hr2 := fun r e => (hr r e).2
  exact ⟨xs, hx, heap_keptWE h0 hg' hr2, heap_keptWE h1 hg' hr2, heap_keptWE h2 hg' hr2, heap_keptWE h3 hg' hr2, heap_keptWE h4 hg' hr2, heap_keptWE h5 hg' hr2, hg, ownFrom_below (β := Unit) (Nat.le_refl _) hB () V V' row hb hg' hr⟩

set_option maxRecDepth 100000 in
set_option maxHeartbeats 8000000 in
theorem litOf_any (W H : Nat) (hW : 0 < W) (hH : 0 < H) (sv : Value) (ws : List Wn) (ok : RmOk (W : Int) (H : Int) ws) (hwf : ∀ x ∈ ws, WnWf x) (g : Int × Int → Nat) (hgd : g = fun t => litW (W : Int) (H : Int) t (fun _ => true) ws) (le : Nat) (P : Nat → Bool) (hP : P = fun k => enB le (g (tk W H hW hH k).1)) (w : World) (hws : WinsAt w sv ws) :
    Calls Tryd.prog 58 #[.agg (roomC (W : Int) (H : Int) sv), .float .f32 le] w fun e w' => e = .returned (.agg (u16s (litN P W (W * H)))) ∧ Below w.heap.size w w' := by
  refine (callsIn_wide (n := 4)).1 ?_
  have hW1 : W ≤ 10 := by have := ok.w1; omega
  have hH1 : H ≤ 10 := by have := ok.h1; omega
  obtain ⟨mp, hmp⟩ : ∃ mp, mp = mpK g W H (W * H) := ⟨_, rfl⟩
  have HMO : Hid (∀ V, WinsAt V sv ws → Calls Tryd.prog 51 #[.agg (roomC (W : Int) (H : Int) sv)] V fun e w' => e = .returned (.agg (mpC mp)) ∧ Below V.heap.size V w') := by
    rw [hmp]
    exact fun V h => mapOf_any W H hW hH sv ws ok hwf g hgd V h
  have LM : Hid (mp.length = 100) := by rw [hmp]; exact mpK_len g W H (W * H)
  have HGT : Hid (∀ x y : Nat, x < W → y < H → mp[y * 10 + x]?.getD 0 = g ((x : Int), (y : Int))) := by rw [hmp]; exact fun x y hx hy => mpK_get g W H hW1 hH1 hx hy
  have HPK : Hid (∀ x y : Nat, x < W → y < H → P (y * W + x) = enB le (g ((x : Int), (y : Int)))) := by rw [hP]; exact fun x y hx hy => by show enB le (g (tk W H hW hH (y * W + x)).1) = _; rw [tk_at W H hW hH hx hy]
  have HLN := Lib.hid (litN_len P W (W * H))
  have HW := Lib.hid hws
  clear hws hwf hgd ok hmp hP
  refine callsIn_of_wp_marks Tryd.func58 rfl trivial ?_ rfl
  simp only [Tryd.ntmps58, List.size_toArray, List.length_cons, List.length_nil, Nat.reduceAdd, Nat.reduceSub, Array.replicate_succ, Array.replicate_zero, List.push_toArray, List.append_toArray, List.nil_append, List.cons_append]
  refine wpIn_wide.2 ?_
  go_upto_region 1 with (fail)
  refine abs_world (fun V => V.heap[w.heap.size]? = some (.cells (roomC (W : Int) (H : Int) sv) 34 (0, 0)) ∧ V.heap[w.heap.size + 1]? = some (.cells #[.float .f32 le] 29 (0, 0)) ∧ V.heap[w.heap.size + 1 + 1]? = some (.cells (u16s zU) 42 (0, 0)) ∧ Below w.heap.size w V) ⟨(three_new _ _ _ _).1, (three_new _ _ _ _).2.1, (three_new _ _ _ _).2.2.1, (three_new _ _ _ _).2.2.2⟩ ?_
  rintro V ⟨h0, h3, h4, hb⟩
  have H0 := Lib.hid h0
  have H3 := Lib.hid h3
  have H4 := Lib.hid h4
  have HV := Lib.hid (wins_below HW.out hb)
  have n01 : w.heap.size < w.heap.size + 1 := by omega
  have n12 : w.heap.size + 1 < w.heap.size + 1 + 1 := by omega
  generalize w.heap.size + 1 + 1 = b4 at *
  generalize w.heap.size + 1 = b3 at *
  clear h0 h3 h4
  go_upto_region 2 with (first | (refine wpList_load_part rfl 34 _ rfl w.heap.size 0 3 rfl 34 (roomC (W : Int) (H : Int) sv) (0, 0) _ H0.out Tryd.underlying34 rfl info_room (room_fits _ _ _) _ (room_all _ _ _) ?_) | (go_at_call 51; refine (HMO.out _ HV.out).mono ?_; rintro e W4 ⟨rfl, hb1⟩; replace H0 := Lib.hid (below_row hb1 H0.out); replace H3 := Lib.hid (below_row hb1 H3.out); replace H4 := Lib.hid (below_row hb1 H4.out); replace hb := hb.trans (hb1.mono hb.size); clear hb1) | (refine wpList_store_part rfl 94 _ _ rfl _ 0 (mpC mp) rfl rfl 94 _ (heap_alloc_new _ _) (by rw [mpC_size, LM.out]; exact info_lm) (by rw [mpC_size, LM.out]; decide) (mpC_one _) ?_; rw [laid_allwE _ _ (by rw [mpC_size, LM.out]; rfl)]))
  refine abs_world (fun X => X.heap[w.heap.size]? = some (.cells (roomC (W : Int) (H : Int) sv) 34 (0, 0)) ∧ X.heap[b3]? = some (.cells #[.float .f32 le] 29 (0, 0)) ∧ X.heap[b4]? = some (.cells (u16s zU) 42 (0, 0)) ∧ X.heap[W4.heap.size]? = some (.cells (mpC mp) 94 (0, 0)) ∧ Below w.heap.size w X) ⟨below_row (zbelE _ _ _) H0.out, below_row (zbelE _ _ _) H3.out, below_row (zbelE _ _ _) H4.out, setRow_heap _ _ _ _ _ _ (heap_alloc_new _ _), below_setRow (hb.alloc hb.size _) hb.size _⟩ ?_
  have l4 := row_lt H4.out
  clear H0 H3 H4 HV hb
  generalize W4.heap.size = b5 at *
  rintro X ⟨h0, h3, h4, h5, hb⟩
  have H0 := Lib.hid h0
  have H3 := Lib.hid h3
  have H4 := Lib.hid h4
  have H5 := Lib.hid h5
  clear h0 h3 h4 h5
  go_upto_region 3 with (fail)
  refine abs_world (fun Y => Y.heap[w.heap.size]? = some (.cells (roomC (W : Int) (H : Int) sv) 34 (0, 0)) ∧ Y.heap[b3]? = some (.cells #[.float .f32 le] 29 (0, 0)) ∧ Y.heap[b4]? = some (.cells (u16s zU) 42 (0, 0)) ∧ Y.heap[b5]? = some (.cells (mpC mp) 94 (0, 0)) ∧ Y.heap[X.heap.size]? = some (.cells (u16s zU) 42 (0, 0)) ∧ Below w.heap.size w Y) ⟨below_row ((Below.refl X.heap.size _).alloc (Nat.le_refl _) _) H0.out, below_row ((Below.refl X.heap.size _).alloc (Nat.le_refl _) _) H3.out, below_row ((Below.refl X.heap.size _).alloc (Nat.le_refl _) _) H4.out, below_row ((Below.refl X.heap.size _).alloc (Nat.le_refl _) _) H5.out, heap_alloc_new _ _, hb.alloc hb.size _⟩ ?_
  have l5 := row_lt H5.out
  clear H0 H3 H4 H5 hb
  generalize X.heap.size = b6 at *
  rintro W0 ⟨h0, h3, h4, h5, h6, hb⟩
  have H0 := Lib.hid h0
  have H3 := Lib.hid h3
  have H4 := Lib.hid h4
  have H5 := Lib.hid h5
  have H6 := Lib.hid h6
  have HB := Lib.hid hb
  have l6 := row_lt h6
  have hle : w.heap.size ≤ W0.heap.size := hb.size
  clear h0 h3 h4 h5 h6 hb HMO
  go_wp2_with (first | (refine wpList_load_part rfl 34 _ rfl w.heap.size 0 3 rfl 34 (roomC (W : Int) (H : Int) sv) (0, 0) _ H0.out Tryd.underlying34 rfl info_room (room_fits _ _ _) _ (room_all _ _ _) ?_) | (go_at_call 53; refine (eachTile_any _ _ _ _).mono ?_; rintro e w' ⟨rfl, rfl⟩))
  refine (wpIn_wide (n := 4)).1 ?_
  refine wpIn_rangeFunc_ownH rfl (by decide) (gf := 107) (lb := #[.pointer (some ⟨W0.heap.size, 0, none⟩)]) rfl trivial (enters_of Tryd.func107 (by kernel_rfl) rfl)
    (eachTile_stops W H hW hH hW1 hH1 sv W0.heap.size _ (heap_alloc_new _ _)) keepsAt_t (keepsAt_b (by simp)) (Below.refl _ _) (fun _ => rfl)
    (LtI W H hW hH P w sv le b3 b4 b5 b6 W0.heap.size mp) (fun _ _ _ => False) (ltI_own W H hW hH P w sv le b3 b4 b5 b6 _ mp _ (by simp; omega)) (fun _ _ _ _ _ hs _ _ => hs) ?h0
    (fun x a' V => ∃ b7 : Nat, W0.heap.size < b7 ∧ a' = { tmps := #[.agg (roomC (W : Int) (H : Int) sv), .float .f32 le, .pointer (some ⟨w.heap.size, 0, none⟩), .pointer (some ⟨b3, 0, none⟩), .pointer (some ⟨b4, 0, none⟩), .pointer (some ⟨b5, 0, none⟩), .pointer (some ⟨b6, 0, none⟩), .pointer (some ⟨b7, 0, none⟩), .agg (roomC (W : Int) (H : Int) sv), .agg (mpC mp), .agg (roomC (W : Int) (H : Int) sv), .func (.func 107) #[] #[.pointer (some ⟨W0.heap.size, 0, none⟩)], .agg (tileC x.1.1 x.1.2), undef, undef, undef, undef, undef, undef, undef, undef, undef, undef, undef, undef, undef, undef, undef, undef, undef, undef, undef], defers := [] } ∧ V.heap[b7]? = some (.cells (tileC x.1.1 x.1.2) 28 (0, 0)))
    (fun x a' s V V' row hx hg hr => by obtain ⟨b4, l4, e, h⟩ := hx; exact ⟨b4, l4, e, heap_keptWE h hg (fun r e => (hr r e).2)⟩) ?assign ?body ?done ?stop
  case h0 =>
    exact ⟨zU, zU_len, below_row ((Below.refl W0.heap.size _).alloc (Nat.le_refl _) _) H0.out, below_row ((Below.refl W0.heap.size _).alloc (Nat.le_refl _) _) H3.out, below_row ((Below.refl W0.heap.size _).alloc (Nat.le_refl _) _) H4.out, below_row ((Below.refl W0.heap.size _).alloc (Nat.le_refl _) _) H5.out, below_row ((Below.refl W0.heap.size _).alloc (Nat.le_refl _) _) H6.out, heap_alloc_new _ _, fun _ => rfl, HB.out.alloc hle _⟩
  case assign =>
    rintro l pre x W2 K hI hK
    have hgl : W0.heap.size < W2.heap.size := by obtain ⟨_, _, _, _, _, _, _, h5, _⟩ := hI; exact row_lt h5
    refine region_plain_round (by rfl) (fun ⟨_, _, h⟩ => h) ?_
    go_wp2_with (refine wpList_store_part rfl 28 _ _ rfl _ 0 (tileC x.1.1 x.1.2) rfl rfl 28 _ (heap_alloc_new _ _) info_tile (Nat.le_refl _) (tile_one _ _) ?_; rw [laid_allwE _ _ (by rfl)])
    have hbn : ∀ o, Below W2.heap.size W2 ((W2.alloc o).setRow W2.heap.size (tileC x.1.1 x.1.2)) := fun o => below_setRow ((Below.refl _ _).alloc (Nat.le_refl _) _) (Nat.le_refl _) _
    exact hK _ _ ((keeps_of_belowWE (hbn _)).from _) (fun _ ho => below_row (hbn _) ho) (ltI_own W H hW hH P w sv le b3 b4 b5 b6 _ mp _ (Nat.le_refl _) _ _ _ none hI (grown_of_belowE (hbn _) none) (fun r e => by cases e)) ⟨_, hgl, rfl, setRow_heap _ _ _ _ _ _ (heap_alloc_new _ _)⟩
  case body =>
    clear H0 H3 H4 H5 H6 HB
    rintro l pre ⟨⟨a1, a2⟩, ha⟩ a' V hl0 hlr ⟨xs, hxl, h0, h3, h4, h5, h6, hgr, hgd, hbw⟩ ⟨b7, hl7, rfl, h7⟩ hl
    have ha2 := ha
    obtain ⟨p0, p1, p2, p3⟩ := ha2
    dsimp only at p0 p1 p2 p3
    obtain ⟨x, rfl⟩ := Int.eq_ofNat_of_zero_le p0
    obtain ⟨y, rfl⟩ := Int.eq_ofNat_of_zero_le p2
    have hxl1 : x < W := by omega
    have hyl : y < H := by omega
    have HGX := Lib.hid (HGT.out x y hxl1 hyl)
    have HPX := HPK.out x y hxl1 hyl
    have HM : Hid (GoodT W H hW hH (pre ++ [⟨((x : Int), (y : Int)), ha⟩]) → (if enB le (g ((x : Int), (y : Int))) then xs.set y (bits .or .u16 (xs[y]?.getD 0) ((2 : Int) ^ x)) else xs) = litN P W (pre ++ [(⟨((x : Int), (y : Int)), ha⟩ : Tt W H)]).length) := Lib.hid (fun hgs => by
      obtain ⟨hgp, hxk⟩ := goodT_snoc hgs
      obtain ⟨x', y', hx', hy', hk', htk⟩ := tk_split W H hW hH hl
      have e : ((x : Int), (y : Int)) = ((x' : Int), (y' : Int)) := by rw [← htk, ← hxk]
      have e1 : x = x' := by have := congrArg Prod.fst e; simp at this; omega
      have e2 : y = y' := by have := congrArg Prod.snd e; simp at this; omega
      subst e1 e2
      rw [List.length_append, List.length_singleton, hgd hgp, hk', litN_at hW hxl1, HPX])
    unfold enB at HM
    generalize g ((x : Int), (y : Int)) = gv at *
    have H0 := Lib.hid h0
    have H3 := Lib.hid h3
    have H4 := Lib.hid h4
    have H5 := Lib.hid h5
    have H6 := Lib.hid h6
    have H7 := Lib.hid h7
    have HG := Lib.hid hgr
    have HBW := Lib.hid hbw
    have HXL := Lib.hid hxl
    have z1 : (x : Int) < 10 := by omega
    have z2 : (0 : Int) ≤ (x : Int) := by omega
    have z3 : (y : Int) < 10 := by omega
    have z4 : (0 : Int) ≤ (y : Int) := by omega
    have hpw := pow16 (show x < 10 by omega)
    have hpw2 : (2 : Int) ^ x % 65536 = (2 : Int) ^ x := hpw
    have HVD : Hid (Below V.heap.size V V.drew) := Lib.hid (Below.refl V.heap.size V).drew
    have qle : V.cell? ⟨b3, 0, none⟩ = some (.float .f32 le) := by rw [cell_of_row _ _ _ _ _ _ h3]; rfl
    have qy : V.cell? ⟨b7, 1, none⟩ = some (.int .i8 (y : Int)) := by rw [cell_of_row _ _ _ _ _ _ h7]; rfl
    have qx : V.cell? ⟨b7, 0, none⟩ = some (.int .i8 (x : Int)) := by rw [cell_of_row _ _ _ _ _ _ h7]; rfl
    have qm := mpC_cell h5 (y * 10 + x) (by rw [LM.out]; omega)
    rw [HGX.out] at qm
    have q6 := u16s_cell h6 y (by omega)
    have f6 := frozen_of_row V b6 y _ _ h6
    clear hgd h0 h3 h4 h5 h6 h7 hgr hbw hxl p0 p1 p2 p3 HGT HPK HPX
    generalize hp : (FloatKind.f32.format.order gv le == some Ordering.gt || FloatKind.f32.format.order gv le == some Ordering.eq) = p at *
    dsimp only
    refine wpIn_block (wpIn_seq ?_)
    refine still_tail_round (k := 8) arrU (by kernel_rfl) (no_defer (by rfl)) (fun ⟨_, _, h⟩ => h) ?_
    simp only [List.take_succ_cons, List.take_zero, List.drop_succ_cons, List.drop_zero]
    repeat still_step
    refine wpStill_nil ?_
    cases p with
    | false =>
      go_wp2
      gi_wp2
      exact ⟨(keeps_of_belowWE HVD.out).from _, fun o ho => ho, xs, HXL.out, H0.out, H3.out, H4.out, H5.out, H6.out, HG.out, fun hg => by have := HM.out hg; simpa using this, HBW.out.trans (HVD.out.mono HBW.out.size)⟩
    | true =>
      go_wp2
      gi_wp2
      refine still_tail_round (k := 9) arrU (by kernel_rfl) (no_defer (by rfl)) (fun ⟨_, _, h⟩ => h) ?_
      simp only [List.take_succ_cons, List.take_zero, List.drop_succ_cons, List.drop_zero]
      repeat still_step
      refine wpStill_nil ?_
      go_wp2
      have HV2 : Hid (Below V.heap.size V V.drew.drew) := Lib.hid HVD.out.drew
      have hbn : Below w.heap.size w (V.drew.drew.setCell ⟨b6, y, none⟩ (.int .u16 (bits .or .u16 (xs[y]?.getD 0) ((2 : Int) ^ x)))) := (HBW.out.trans (HV2.out.mono HBW.out.size)).setCell (p := ⟨b6, y, none⟩) (by simp; omega) _
      exact ⟨((keeps_of_belowWE HV2.out).trans (KeepsOthers.setCell _ _ _)).from _, fun o ho => (heap_setCell_other _ _ _ _ (by simp; omega)).trans ho, xs.set y (bits .or .u16 (xs[y]?.getD 0) ((2 : Int) ^ x)), by rw [List.length_set]; exact HXL.out, (heap_setCell_other _ _ _ _ (by simp; omega)).trans H0.out, (heap_setCell_other _ _ _ _ (by simp; omega)).trans H3.out, (heap_setCell_other _ _ _ _ (by simp; omega)).trans H4.out, (heap_setCell_other _ _ _ _ (by simp; omega)).trans H5.out, by show (V.setCell ⟨b6, y, none⟩ _).heap[b6]? = _; rw [heap_setCell_same _ _ _ _ _ _ H6.out, u16s_set], (heap_setCell_other _ _ _ _ (by simp; omega)).trans HG.out, fun hg => by have := HM.out hg; simpa using this, hbn⟩
  case done =>
    clear H0 H3 H4 H5 H6 HB HGT HPK
    rintro D zs V hD rfl ⟨xs, hxl, h0, h3, h4, h5, h6, hgr, hgd, hb⟩ hK
    rename_i K hcont
    have hD' : w.heap.size ≤ D := by first | omega | (simp at hD; omega)
    have hDb : D ≠ b4 := by first | omega | (simp at hD; omega)
    have hM := hgd (goodT_all W H hW hH (W * H))
    rw [tks_length] at hM
    subst hM
    have H4 := Lib.hid h4
    have H6 := Lib.hid h6
    have HK := Lib.hid hK
    clear hgd h0 h3 h4 h5 h6 hgr hD hK hxl
    refine hcont _ _ ?_
    have hle1 : w.heap.size ≤ b4 := by omega
    go_wp2_with (first | (refine wpList_load_part rfl 42 _ rfl b6 0 10 rfl 42 (u16s (litN P W (W * H))) (0, 0) _ H6.out Tryd.underlying42 rfl info_u16 (by rw [u16s_size, HLN.out]; decide) (u16s (litN P W (W * H))) (u16s_all _ 10 HLN.out) ?_) | (refine wpList_store_part rfl 42 _ _ rfl b4 0 (u16s (litN P W (W * H))) rfl rfl 42 _ H4.out (by rw [u16s_size, HLN.out]; exact info_u16) (by rw [u16s_size, u16s_size, HLN.out, zU_len]; decide) (u16s_one _) ?_; rw [laid_allwE _ _ (by rw [u16s_size, u16s_size, HLN.out, zU_len])]))
    have hK2 : (V.setRow b4 (u16s (litN P W (W * H)))).heap[D]? = some (.deferred (some [])) := (setRow_other _ _ _ _ hDb).trans HK.out
    have hR := setRow_heap V b4 _ (u16s (litN P W (W * H))) _ _ H4.out
    refine ⟨by simp, .inl ⟨_, _, rfl, run_takeDeferred hK2, ?_⟩⟩
    refine ⟨.agg (u16s (litN P W (W * H))), results_cell_row (fn := Tryd.f58) rfl _ _ _ _ _ _ _ rfl ((World.putObj_heap_other (Ne.symm hDb)).trans hR) Tryd.underlying42 rfl (by rw [u16s_size, HLN.out]; exact info_u16), rfl, ?_⟩
    exact (below_setRow hb hle1 _).trans (belowK_b (w := w) (Nat.le_refl _) _ D _ _ hD' hK2 rfl rfl)
  case stop =>
    rintro D c pre V _ _ h _
    exact h.elim

end Go.Proofs.YtdccmdcgbembpaaDoor

namespace Go.Proofs.YtdccmdcgbembpaaDoor
open Go.ChangeShapes Go.WideShapes Go.ChangeAt Go.RowKit Go.Deep Go.Joins

attribute [local go_sem] run_store_floatE

theorem fin_iffT {b : Nat} : (FloatKind.f32.format.order b b = some .eq ∧ fin32 b = true) ∨ (FloatKind.f32.format.order b b = none ∧ fin32 b = false) := by
  unfold fin32
  show ((Ieee.single.read b).order (Ieee.single.read b) = some .eq ∧ _) ∨ _
  generalize hd : Ieee.single.read b = d
  have e : FloatKind.f32.format.order b b = d.order d := by show (Ieee.single.read b).order (Ieee.single.read b) = _; rw [hd]
  rw [e]
  cases d with
  | number s m e => left; simp [Ieee.Datum.order, Ieee.Datum.isNaN]
  | infinity s => left; simp [Ieee.Datum.order, Ieee.Datum.isNaN]
  | nan s f => right; exact ⟨rfl, rfl⟩

set_option maxRecDepth 100000 in
set_option maxHeartbeats 1000000 in
theorem iNumT (b : Nat) (w : World) : Calls Tryd.prog 57 #[.float .f32 b] w fun e w' => e = .returned (.bool (fin32 b)) ∧ w = w' := by
  rcases fin_iffT (b := b) with ⟨h, e⟩ | ⟨h, e⟩
  all_goals
    rw [e]
    clear e
    go_enter Tryd.func57, Tryd.ntmps57
    go_wp2
    go_ret
    exact ⟨rfl, rfl⟩

set_option maxRecDepth 100000 in
set_option maxHeartbeats 1000000 in
theorem sNumT (b : Nat) (w : World) : Calls Tryd.prog 56 #[.float .f32 b] w fun e w' => e = .returned (.bool (fin32 b)) ∧ w = w' := by
  rcases fin_iffT (b := b) with ⟨h, e⟩ | ⟨h, e⟩
  all_goals
    rw [e]
    clear e
    go_enter Tryd.func56, Tryd.ntmps56
    go_wp2
    go_ret
    exact ⟨rfl, rfl⟩

theorem wpList_buildTT {P : Program} {ops : Array Oper} {rest : List Oper} {o : Oper} {a : Act} {w : World} {Q : Exit → Act → World → Prop} (hg : o.guard = none) (t : TypeId) (parts : Array (Nat × Operand)) (ho : o.op = .build t parts)
    (d : Option Tmp) (hd : o.dst = d) (l : List (Nat × Value)) (hp : parts.toList.map (fun x => (x.1, a.eval x.2)) = l) (cells : Array Value) (hf : P.built t l = some cells)
    (h : wpList P ops Q rest (a.put d (.agg cells)) w) : wpList P ops Q (o :: rest) a w := by
  refine wpList_buildTo hg t parts ho d hd cells ?_ h
  rw [Array.toList_map, ← hf, ← hp]

theorem results_lit {fn : Func} {p u : Tmp} (h : fn.results = #[.cell p 42, .tmp u]) (tmps : Array Value) (w : World) (g : Nat) (xs : List Int) (hx : xs.length = 10) (hp : tmps.getD p undef = .pointer (some ⟨g, 0, none⟩)) (hg : w.heap[g]? = some (.cells (u16s xs) 42 (0, 0))) :
    (results fn tmps).run Tryd.prog w = .ok (.tuple #[.agg (u16s xs), tmps.getD u undef]) w := by
  have e := run_loadVar_row w g 42 42 (u16s xs) (0, 0) _ hg Tryd.underlying42 rfl (by rw [u16s_size, hx]; exact info_u16)
  have e0 : (results fn tmps).run Tryd.prog w =
      ((asAddr (tmps.getD p undef)).run Tryd.prog w).andThen fun a w₁ => ((loadVar 42 a).run Tryd.prog w₁).andThen fun x w₂ => .ok (.tuple #[x, tmps.getD u undef]) w₂ := by
    simp only [results, h]
    simp [Sem.run_bind, Result.andThen]
  rw [e0, hp]
  simp only [asAddr, Sem.run_pure, Result.andThen_ok, e]

set_option maxRecDepth 100000 in
set_option maxHeartbeats 2000000 in
theorem iLit_n1 (wd hg : Int) (sv : Value) (ws : List Wn) (le : Nat) (e0 e1 e2 e3 : Addr) (w : World) (hws : WinsAt w sv ws) (hE : ErrsAt w e0 e1 e2 e3) (hv : okRm wd hg ws = false) :
    Calls Tryd.prog 19 #[.agg (roomC wd hg sv), .float .f32 le] w fun e w' => e = .returned (.tuple #[.agg (u16s zU), .int .i64 1]) ∧ Below w.heap.size w w' := by
  have HVR : Hid (∀ V, WinsAt V sv ws → Calls Tryd.prog 49 #[.agg (roomC wd hg sv)] V fun e w' => e = .returned (.bool false) ∧ Below V.heap.size V w') := Lib.hid (fun V h => by have := ValidRoom_any wd hg sv ws V h; rw [hv] at this; exact this)
  have HNM : Hid (∀ V, Calls Tryd.prog 57 #[.float .f32 le] V fun e w' => e = .returned (.bool (fin32 le)) ∧ V = w') := Lib.hid (fun V => by have := iNumT le V; exact this)
  have HRF : Hid (∀ V, ErrsAt V e0 e1 e2 e3 → Calls Tryd.prog 48 #[.bool false, .bool (fin32 le), .bool true] V fun e w' => e = .returned (.iface 211 (.pointer (some e0))) ∧ V = w') := Lib.hid (fun V h => refusal_any h false (fin32 le) true)
  have HW := Lib.hid hws
  have HX := Lib.hid hE
  have HZB : Hid (Tryd.prog.built 42 [] = some (u16s zU)) := by unfold Hid; kernel_rfl
  have hn := fun w => run_neq_held_nil (P := Tryd.prog) (w := w) 88 211 (.pointer (some e0)) (by kernel_rfl)
  clear hws hE hv
  go_enter Tryd.func19, Tryd.ntmps19
  go_upto_region 1 with (fail)
  refine abs_world (fun V => V.heap[w.heap.size]? = some (.cells (roomC wd hg sv) 34 (0, 0)) ∧ V.heap[w.heap.size + 1]? = some (.cells (u16s zU) 42 (0, 0)) ∧ Below w.heap.size w V) (two_at w (.cells (roomC wd hg sv) 34) (.cells (u16s zU) 42)) ?_
  rintro V ⟨h0, h1, hb⟩
  have H0 := Lib.hid h0
  have H1 := Lib.hid h1
  have HV := Lib.hid (wins_below HW.out hb)
  replace HX := Lib.hid (errs_below HX.out hb)
  have n01 : w.heap.size < w.heap.size + 1 := by omega
  have hle1 : w.heap.size ≤ w.heap.size + 1 := by omega
  generalize w.heap.size + 1 = b1 at *
  clear h0 h1
  go_wp2_with (first | (refine wpList_load_part rfl 34 _ rfl w.heap.size 0 3 rfl 34 (roomC wd hg sv) (0, 0) _ H0.out Tryd.underlying34 rfl info_room (room_fits _ _ _) _ (room_all _ _ _) ?_) | (go_at_call 49; refine (HVR.out _ HV.out).mono ?_; rintro e W1 ⟨rfl, hb1⟩; replace H0 := Lib.hid (below_row hb1 H0.out); replace H1 := Lib.hid (below_row hb1 H1.out); replace HV := Lib.hid (wins_below HV.out hb1); replace HX := Lib.hid (errs_below HX.out hb1); replace hb := hb.trans (hb1.mono hb.size); clear hb1) | (go_at_call 57; refine (HNM.out _).mono ?_; rintro e w' ⟨rfl, rfl⟩) | (go_at_call 48; refine (HRF.out _ HX.out).mono ?_; rintro e W3 ⟨rfl, rfl⟩) | (go_at_call 50; refine (codeOf_any HX.out 1).mono ?_; rintro e W4 ⟨rfl, rfl⟩) | (refine wpList_buildTT rfl 42 _ rfl _ rfl [] rfl (u16s zU) HZB.out ?_) | (refine wpList_store_part rfl 42 _ _ rfl b1 0 (u16s zU) rfl rfl 42 (u16s zU) H1.out (by rw [u16s_size, zU_len]; exact info_u16) (Nat.le_refl _) (u16s_one _) ?_; rw [laid_allwE _ _ (by rfl)]))
  refine bodyPost_ret (results_lit rfl _ _ b1 zU zU_len rfl (setRow_heap _ _ _ _ _ _ H1.out)) rfl ?_
  exact ⟨rfl, below_setRow hb hle1 _⟩

set_option maxRecDepth 100000 in
set_option maxHeartbeats 2000000 in
theorem iLit_n2 (wd hg : Int) (sv : Value) (ws : List Wn) (le : Nat) (e0 e1 e2 e3 : Addr) (w : World) (hws : WinsAt w sv ws) (hE : ErrsAt w e0 e1 e2 e3) (hv : okRm wd hg ws = true) (hn2 : fin32 le = false) :
    Calls Tryd.prog 19 #[.agg (roomC wd hg sv), .float .f32 le] w fun e w' => e = .returned (.tuple #[.agg (u16s zU), .int .i64 2]) ∧ Below w.heap.size w w' := by
  have HVR : Hid (∀ V, WinsAt V sv ws → Calls Tryd.prog 49 #[.agg (roomC wd hg sv)] V fun e w' => e = .returned (.bool true) ∧ Below V.heap.size V w') := Lib.hid (fun V h => by have := ValidRoom_any wd hg sv ws V h; rw [hv] at this; exact this)
  have HNM : Hid (∀ V, Calls Tryd.prog 57 #[.float .f32 le] V fun e w' => e = .returned (.bool false) ∧ V = w') := Lib.hid (fun V => by have := iNumT le V; rw [hn2] at this; exact this)
  have HRF : Hid (∀ V, ErrsAt V e0 e1 e2 e3 → Calls Tryd.prog 48 #[.bool true, .bool false, .bool true] V fun e w' => e = .returned (.iface 211 (.pointer (some e1))) ∧ V = w') := Lib.hid (fun V h => refusal_any h true false true)
  have HW := Lib.hid hws
  have HX := Lib.hid hE
  have HZB : Hid (Tryd.prog.built 42 [] = some (u16s zU)) := by unfold Hid; kernel_rfl
  have hn := fun w => run_neq_held_nil (P := Tryd.prog) (w := w) 88 211 (.pointer (some e1)) (by kernel_rfl)
  clear hws hE hv hn2
  go_enter Tryd.func19, Tryd.ntmps19
  go_upto_region 1 with (fail)
  refine abs_world (fun V => V.heap[w.heap.size]? = some (.cells (roomC wd hg sv) 34 (0, 0)) ∧ V.heap[w.heap.size + 1]? = some (.cells (u16s zU) 42 (0, 0)) ∧ Below w.heap.size w V) (two_at w (.cells (roomC wd hg sv) 34) (.cells (u16s zU) 42)) ?_
  rintro V ⟨h0, h1, hb⟩
  have H0 := Lib.hid h0
  have H1 := Lib.hid h1
  have HV := Lib.hid (wins_below HW.out hb)
  replace HX := Lib.hid (errs_below HX.out hb)
  have n01 : w.heap.size < w.heap.size + 1 := by omega
  have hle1 : w.heap.size ≤ w.heap.size + 1 := by omega
  generalize w.heap.size + 1 = b1 at *
  clear h0 h1
  go_wp2_with (first | (refine wpList_load_part rfl 34 _ rfl w.heap.size 0 3 rfl 34 (roomC wd hg sv) (0, 0) _ H0.out Tryd.underlying34 rfl info_room (room_fits _ _ _) _ (room_all _ _ _) ?_) | (go_at_call 49; refine (HVR.out _ HV.out).mono ?_; rintro e W1 ⟨rfl, hb1⟩; replace H0 := Lib.hid (below_row hb1 H0.out); replace H1 := Lib.hid (below_row hb1 H1.out); replace HV := Lib.hid (wins_below HV.out hb1); replace HX := Lib.hid (errs_below HX.out hb1); replace hb := hb.trans (hb1.mono hb.size); clear hb1) | (go_at_call 57; refine (HNM.out _).mono ?_; rintro e w' ⟨rfl, rfl⟩) | (go_at_call 48; refine (HRF.out _ HX.out).mono ?_; rintro e W3 ⟨rfl, rfl⟩) | (go_at_call 50; refine (codeOf_any HX.out 2).mono ?_; rintro e W4 ⟨rfl, rfl⟩) | (refine wpList_buildTT rfl 42 _ rfl _ rfl [] rfl (u16s zU) HZB.out ?_) | (refine wpList_store_part rfl 42 _ _ rfl b1 0 (u16s zU) rfl rfl 42 (u16s zU) H1.out (by rw [u16s_size, zU_len]; exact info_u16) (Nat.le_refl _) (u16s_one _) ?_; rw [laid_allwE _ _ (by rfl)]))
  refine bodyPost_ret (results_lit rfl _ _ b1 zU zU_len rfl (setRow_heap _ _ _ _ _ _ H1.out)) rfl ?_
  exact ⟨rfl, below_setRow hb hle1 _⟩

set_option maxRecDepth 100000 in
set_option maxHeartbeats 2000000 in
theorem iLit_y (wd hg : Int) (W H : Nat) (hwd : wd = (W : Int)) (hhg : hg = (H : Int)) (hW : 0 < W) (hH : 0 < H) (sv : Value) (ws : List Wn) (hwf : ∀ x ∈ ws, WnWf x) (g : Int × Int → Nat) (hgd : g = fun t => litW (W : Int) (H : Int) t (fun _ => true) ws) (le : Nat) (hn2 : fin32 le = true) (P : Nat → Bool) (hP : P = fun k => enB le (g (tk W H hW hH k).1)) (e0 e1 e2 e3 : Addr) (w : World) (hws : WinsAt w sv ws) (hE : ErrsAt w e0 e1 e2 e3) (hv : okRm wd hg ws = true) :
    Calls Tryd.prog 19 #[.agg (roomC wd hg sv), .float .f32 le] w fun e w' => e = .returned (.tuple #[.agg (u16s (litN P W (W * H))), .int .i64 0]) ∧ Below w.heap.size w w' := by
  have HVR : Hid (∀ V, WinsAt V sv ws → Calls Tryd.prog 49 #[.agg (roomC wd hg sv)] V fun e w' => e = .returned (.bool true) ∧ Below V.heap.size V w') := Lib.hid (fun V h => by have := ValidRoom_any wd hg sv ws V h; rw [hv] at this; exact this)
  have HNM : Hid (∀ V, Calls Tryd.prog 57 #[.float .f32 le] V fun e w' => e = .returned (.bool true) ∧ V = w') := Lib.hid (fun V => by have := iNumT le V; rw [hn2] at this; exact this)
  have HRF : Hid (∀ V, ErrsAt V e0 e1 e2 e3 → Calls Tryd.prog 48 #[.bool true, .bool true, .bool true] V fun e w' => e = .returned .nilIface ∧ V = w') := Lib.hid (fun V h => refusal_any h true true true)
  have HLO : Hid (∀ V, WinsAt V sv ws → Calls Tryd.prog 58 #[.agg (roomC wd hg sv), .float .f32 le] V fun e w' => e = .returned (.agg (u16s (litN P W (W * H)))) ∧ Below V.heap.size V w') := by
    have ok := okRm_get hv
    rw [hwd, hhg] at ok
    rw [hwd, hhg]
    exact fun V h => litOf_any W H hW hH sv ws ok hwf g hgd le P hP V h
  have HW := Lib.hid hws
  have HX := Lib.hid hE
  have LM := Lib.hid (litN_len P W (W * H))
  have hn := fun w => run_neq_nil_nil (P := Tryd.prog) (w := w) 88 (by kernel_rfl)
  clear hws hE hv hwf hgd hwd hhg hP hn2
  generalize litN P W (W * H) = lt at *
  go_enter Tryd.func19, Tryd.ntmps19
  go_upto_region 1 with (fail)
  refine abs_world (fun V => V.heap[w.heap.size]? = some (.cells (roomC wd hg sv) 34 (0, 0)) ∧ V.heap[w.heap.size + 1]? = some (.cells (u16s zU) 42 (0, 0)) ∧ Below w.heap.size w V) (two_at w (.cells (roomC wd hg sv) 34) (.cells (u16s zU) 42)) ?_
  rintro V ⟨h0, h1, hb⟩
  have H0 := Lib.hid h0
  have H1 := Lib.hid h1
  have HV := Lib.hid (wins_below HW.out hb)
  replace HX := Lib.hid (errs_below HX.out hb)
  have n01 : w.heap.size < w.heap.size + 1 := by omega
  have hle1 : w.heap.size ≤ w.heap.size + 1 := by omega
  generalize w.heap.size + 1 = b1 at *
  clear h0 h1
  go_wp2_with (first | (refine wpList_load_part rfl 34 _ rfl w.heap.size 0 3 rfl 34 (roomC wd hg sv) (0, 0) _ H0.out Tryd.underlying34 rfl info_room (room_fits _ _ _) _ (room_all _ _ _) ?_) | (go_at_call 49; refine (HVR.out _ HV.out).mono ?_; rintro e W1 ⟨rfl, hb1⟩; replace H0 := Lib.hid (below_row hb1 H0.out); replace H1 := Lib.hid (below_row hb1 H1.out); replace HV := Lib.hid (wins_below HV.out hb1); replace HX := Lib.hid (errs_below HX.out hb1); replace hb := hb.trans (hb1.mono hb.size); clear hb1) | (go_at_call 57; refine (HNM.out _).mono ?_; rintro e w' ⟨rfl, rfl⟩) | (go_at_call 48; refine (HRF.out _ HX.out).mono ?_; rintro e W3 ⟨rfl, rfl⟩) | (go_at_call 58; refine (HLO.out _ HV.out).mono ?_; rintro e W1 ⟨rfl, hb1⟩; replace H0 := Lib.hid (below_row hb1 H0.out); replace H1 := Lib.hid (below_row hb1 H1.out); replace HV := Lib.hid (wins_below HV.out hb1); replace HX := Lib.hid (errs_below HX.out hb1); replace hb := hb.trans (hb1.mono hb.size); clear hb1) | (refine wpList_store_part rfl 42 _ _ rfl b1 0 (u16s lt) rfl rfl 42 (u16s zU) H1.out (by rw [u16s_size, LM.out]; exact info_u16) (by rw [u16s_size, u16s_size, LM.out, zU_len]; decide) (u16s_one _) ?_; rw [laid_allwE _ _ (by rw [u16s_size, u16s_size, LM.out, zU_len])]))
  refine bodyPost_ret (results_lit rfl _ _ b1 lt LM.out rfl (setRow_heap _ _ _ _ _ _ H1.out)) rfl ?_
  exact ⟨rfl, below_setRow hb hle1 _⟩

end Go.Proofs.YtdccmdcgbembpaaDoor

namespace Go.Proofs.YtdccmdcgbembpaaDoor
open Go.RowKit

attribute [local go_sem] run_store_f

/-- The glare of a desk; that of a desk of a list. -/
def dkG (wd hg : Int) (ws : List Wn) (x : Dk) : Nat := litW wd hg (x.1, x.2.1) (glW wd hg x.1 x.2.1 x.2.2) ws

def gdN (wd hg : Int) (ws : List Wn) (ds : List Dk) (k : Nat) : Nat :=
  match ds[k]? with
  | some x => dkG wd hg ws x
  | none => 0

/-- The bits of the desks with too much glare, as far as they have been looked at. -/
def gbN (d : Nat → Nat) (bd : Nat) : Nat → Int
  | 0 => 0
  | k + 1 => if FloatKind.f32.format.order (d k) bd == some .gt then bits .or .u16 (gbN d bd k) ((2 : Int) ^ k) else gbN d bd k

theorem gbN_hit {d : Nat → Nat} {bd k : Nat} (h : (FloatKind.f32.format.order (d k) bd == some .gt) = true) : gbN d bd (k + 1) = bits .or .u16 (gbN d bd k) ((2 : Int) ^ k) := by
  rw [gbN, if_pos h]

theorem gbN_miss {d : Nat → Nat} {bd k : Nat} (h : (FloatKind.f32.format.order (d k) bd == some .gt) = false) : gbN d bd (k + 1) = gbN d bd k := by
  rw [gbN, if_neg (by rw [h]; decide)]

/-- A desk's place is one of a room. -/
theorem fitD_get {wd hg : Int} {x : Dk} (h : fitD wd hg x = true) : inRoom wd hg (x.1, x.2.1) ∧ 0 ≤ x.2.2 ∧ x.2.2 ≤ 3 := by
  unfold fitD isD inI at h
  rw [Bool.and_eq_true, Bool.and_eq_true, decide_eq_true_iff, decide_eq_true_iff] at h
  exact ⟨isT_get h.1, h.2.1, h.2.2⟩

theorem glareDk_any (wd hg : Int) (sv : Value) (ws : List Wn) (ok : RmOk wd hg ws) (hwf : ∀ x ∈ ws, WnWf x) (x : Dk) (hx : fitD wd hg x = true) (w : World) (hws : WinsAt w sv ws) :
    Calls Tryd.prog 62 #[.agg (roomC wd hg sv), .agg (dkC x)] w fun e w' => e = .returned (.float .f32 (dkG wd hg ws x)) ∧ Below w.heap.size w w' := by
  obtain ⟨h1, h2, h3⟩ := fitD_get hx
  exact glareAt_any wd hg sv ws ok hwf x.1 x.2.1 x.2.2 h1 h2 h3 w hws

theorem gbZ (V : World) (o : Obj) (cs : Array Value) : Below V.heap.size V ((V.alloc o).setRow V.heap.size cs) := below_setRow ((Below.refl _ _).alloc (Nat.le_refl _) _) (Nat.le_refl _) _

/-- The code that a list of desks and a bound are refused with. -/
def codeG (ok num all : Bool) (n : Nat) : Int := if !ok then 1 else if !(num && all) then 2 else if 8 < n then 3 else 0

set_option maxRecDepth 100000 in
set_option maxHeartbeats 4000000 in
theorem iGb_ffff (wd hg : Int) (sv dv : Value) (ws : List Wn) (ds : List Dk) (bd : Nat) (e0 e1 e2 e3 : Addr) (w : World) (hws : WinsAt w sv ws) (hds : DksAt w dv ds) (hE : ErrsAt w e0 e1 e2 e3) (hv : okRm wd hg ws = false) (hn2 : fin32 bd = false) (hl : 8 < ds.length) :
    Calls Tryd.prog 27 #[.agg (roomC wd hg sv), dv, .float .f32 bd] w fun e w' => e = .returned (.tuple #[.int .u16 0, .int .i64 1]) ∧ Below w.heap.size w w' := by
  have HVR : Hid (∀ V, WinsAt V sv ws → Calls Tryd.prog 49 #[.agg (roomC wd hg sv)] V fun e w' => e = .returned (.bool false) ∧ Below V.heap.size V w') := Lib.hid (fun V h => by have := ValidRoom_any wd hg sv ws V h; rw [hv] at this; exact this)
  have HNM : Hid (∀ V, Calls Tryd.prog 57 #[.float .f32 bd] V fun e w' => e = .returned (.bool false) ∧ V = w') := Lib.hid (fun V => by have := iNumT bd V; rw [hn2] at this; exact this)
  have HRF : Hid (∀ V, ErrsAt V e0 e1 e2 e3 → Calls Tryd.prog 48 #[.bool false, .bool false, .bool false] V fun e w' => e = .returned (.iface 211 (.pointer (some e0))) ∧ V = w') := Lib.hid (fun V h => refusal_any h false false false)
  have hn := fun w => run_neq_held_nil (P := Tryd.prog) (w := w) 88 211 (.pointer (some e0)) (by kernel_rfl)
  have hln : ∃ a0 cap0, dv = .slice a0 ds.length cap0 := by obtain ⟨a, c, e, _⟩ := hds; exact ⟨a, c, e⟩
  obtain ⟨da, dcap, edv⟩ := hln
  have HW := Lib.hid hws
  have HDK := Lib.hid hds
  have HX := Lib.hid hE
  clear hws hds hE
  have zl : (8 : Int) < ((ds.length : Nat) : Int) := by omega
  have zd : decide (((ds.length : Nat) : Int) ≤ 8) = false := decide_eq_false (by omega)
  generalize ds.length = n at *
  clear hv hn2 hl
  subst edv
  go_enter Tryd.func27, Tryd.ntmps27
  go_upto_region 1 with (fail)
  refine abs_world (fun W => W.heap[w.heap.size]? = some (.cells (roomC wd hg sv) 34 (0, 0)) ∧ Below w.heap.size w W) ⟨heap_alloc_new _ _, (Below.refl _ _).alloc (Nat.le_refl _) _⟩ ?_
  rintro W ⟨h0, hbz⟩
  have H0 := Lib.hid h0
  have HV := Lib.hid (wins_below HW.out hbz)
  have HD := Lib.hid (dks_below HDK.out hbz)
  replace HX := Lib.hid (errs_below HX.out hbz)
  clear h0 HW HDK
  go_wp2_with (first | (refine wpList_load_partG 34 _ rfl w.heap.size 0 3 rfl rfl 34 (roomC wd hg sv) (0, 0) _ H0.out Tryd.underlying34 rfl info_room (room_fits _ _ _) _ (room_all _ _ _) ?_) | (refine wpList_load_part rfl 34 _ rfl w.heap.size 0 3 rfl 34 (roomC wd hg sv) (0, 0) _ H0.out Tryd.underlying34 rfl info_room (room_fits _ _ _) _ (room_all _ _ _) ?_) | (go_at_call 57; refine (HNM.out _).mono ?_; rintro e w' ⟨rfl, rfl⟩) | fail | (go_at_call 49; refine (HVR.out _ HV.out).mono ?_; rintro e W2 ⟨rfl, hb2⟩; replace H0 := Lib.hid (below_row hb2 H0.out); replace HV := Lib.hid (wins_below HV.out hb2); replace HD := Lib.hid (dks_below HD.out hb2); replace HX := Lib.hid (errs_below HX.out hb2); replace hbz := hbz.trans (hb2.mono hbz.size); clear hb2) | (go_at_call 48; refine (HRF.out _ HX.out).mono ?_; rintro e W3 ⟨rfl, rfl⟩) | (go_at_call 50; refine (codeOf_any HX.out 1).mono ?_; rintro e W4 ⟨rfl, rfl⟩))
  go_ret2
  exact ⟨rfl, hbz⟩

set_option maxRecDepth 100000 in
set_option maxHeartbeats 4000000 in
theorem iGb_ffft (wd hg : Int) (sv dv : Value) (ws : List Wn) (ds : List Dk) (bd : Nat) (e0 e1 e2 e3 : Addr) (w : World) (hws : WinsAt w sv ws) (hds : DksAt w dv ds) (hE : ErrsAt w e0 e1 e2 e3) (hv : okRm wd hg ws = false) (hn2 : fin32 bd = false) (hl : ds.length ≤ 8) :
    Calls Tryd.prog 27 #[.agg (roomC wd hg sv), dv, .float .f32 bd] w fun e w' => e = .returned (.tuple #[.int .u16 0, .int .i64 1]) ∧ Below w.heap.size w w' := by
  have HVR : Hid (∀ V, WinsAt V sv ws → Calls Tryd.prog 49 #[.agg (roomC wd hg sv)] V fun e w' => e = .returned (.bool false) ∧ Below V.heap.size V w') := Lib.hid (fun V h => by have := ValidRoom_any wd hg sv ws V h; rw [hv] at this; exact this)
  have HNM : Hid (∀ V, Calls Tryd.prog 57 #[.float .f32 bd] V fun e w' => e = .returned (.bool false) ∧ V = w') := Lib.hid (fun V => by have := iNumT bd V; rw [hn2] at this; exact this)
  have HRF : Hid (∀ V, ErrsAt V e0 e1 e2 e3 → Calls Tryd.prog 48 #[.bool false, .bool false, .bool true] V fun e w' => e = .returned (.iface 211 (.pointer (some e0))) ∧ V = w') := Lib.hid (fun V h => refusal_any h false false true)
  have hn := fun w => run_neq_held_nil (P := Tryd.prog) (w := w) 88 211 (.pointer (some e0)) (by kernel_rfl)
  have hln : ∃ a0 cap0, dv = .slice a0 ds.length cap0 := by obtain ⟨a, c, e, _⟩ := hds; exact ⟨a, c, e⟩
  obtain ⟨da, dcap, edv⟩ := hln
  have HW := Lib.hid hws
  have HDK := Lib.hid hds
  have HX := Lib.hid hE
  clear hws hds hE
  have zl : ((ds.length : Nat) : Int) ≤ 8 := by omega
  have zd : decide (((ds.length : Nat) : Int) ≤ 8) = true := decide_eq_true (by omega)
  generalize ds.length = n at *
  clear hv hn2 hl
  subst edv
  go_enter Tryd.func27, Tryd.ntmps27
  go_upto_region 1 with (fail)
  refine abs_world (fun W => W.heap[w.heap.size]? = some (.cells (roomC wd hg sv) 34 (0, 0)) ∧ Below w.heap.size w W) ⟨heap_alloc_new _ _, (Below.refl _ _).alloc (Nat.le_refl _) _⟩ ?_
  rintro W ⟨h0, hbz⟩
  have H0 := Lib.hid h0
  have HV := Lib.hid (wins_below HW.out hbz)
  have HD := Lib.hid (dks_below HDK.out hbz)
  replace HX := Lib.hid (errs_below HX.out hbz)
  clear h0 HW HDK
  go_wp2_with (first | (refine wpList_load_partG 34 _ rfl w.heap.size 0 3 rfl rfl 34 (roomC wd hg sv) (0, 0) _ H0.out Tryd.underlying34 rfl info_room (room_fits _ _ _) _ (room_all _ _ _) ?_) | (refine wpList_load_part rfl 34 _ rfl w.heap.size 0 3 rfl 34 (roomC wd hg sv) (0, 0) _ H0.out Tryd.underlying34 rfl info_room (room_fits _ _ _) _ (room_all _ _ _) ?_) | (go_at_call 57; refine (HNM.out _).mono ?_; rintro e w' ⟨rfl, rfl⟩) | fail | (go_at_call 49; refine (HVR.out _ HV.out).mono ?_; rintro e W2 ⟨rfl, hb2⟩; replace H0 := Lib.hid (below_row hb2 H0.out); replace HV := Lib.hid (wins_below HV.out hb2); replace HD := Lib.hid (dks_below HD.out hb2); replace HX := Lib.hid (errs_below HX.out hb2); replace hbz := hbz.trans (hb2.mono hbz.size); clear hb2) | (go_at_call 48; refine (HRF.out _ HX.out).mono ?_; rintro e W3 ⟨rfl, rfl⟩) | (go_at_call 50; refine (codeOf_any HX.out 1).mono ?_; rintro e W4 ⟨rfl, rfl⟩))
  go_ret2
  exact ⟨rfl, hbz⟩

set_option maxRecDepth 100000 in
set_option maxHeartbeats 4000000 in
theorem iGb_ftff (wd hg : Int) (sv dv : Value) (ws : List Wn) (ds : List Dk) (bd : Nat) (e0 e1 e2 e3 : Addr) (w : World) (hws : WinsAt w sv ws) (hds : DksAt w dv ds) (hE : ErrsAt w e0 e1 e2 e3) (hv : okRm wd hg ws = false) (hn2 : fin32 bd = true) (ha : ds.all (fitD wd hg) = false) (hl : 8 < ds.length) :
    Calls Tryd.prog 27 #[.agg (roomC wd hg sv), dv, .float .f32 bd] w fun e w' => e = .returned (.tuple #[.int .u16 0, .int .i64 1]) ∧ Below w.heap.size w w' := by
  have HVR : Hid (∀ V, WinsAt V sv ws → Calls Tryd.prog 49 #[.agg (roomC wd hg sv)] V fun e w' => e = .returned (.bool false) ∧ Below V.heap.size V w') := Lib.hid (fun V h => by have := ValidRoom_any wd hg sv ws V h; rw [hv] at this; exact this)
  have HNM : Hid (∀ V, Calls Tryd.prog 57 #[.float .f32 bd] V fun e w' => e = .returned (.bool true) ∧ V = w') := Lib.hid (fun V => by have := iNumT bd V; rw [hn2] at this; exact this)
  have HAR : Hid (∀ V, DksAt V dv ds → Calls Tryd.prog 65 #[.agg (roomC wd hg sv), dv] V fun e w' => e = .returned (.bool false) ∧ Below V.heap.size V w') := Lib.hid (fun V h => by have := areDesks_any wd hg sv dv ds V h; rw [ha] at this; exact this)
  have HRF : Hid (∀ V, ErrsAt V e0 e1 e2 e3 → Calls Tryd.prog 48 #[.bool false, .bool false, .bool false] V fun e w' => e = .returned (.iface 211 (.pointer (some e0))) ∧ V = w') := Lib.hid (fun V h => refusal_any h false false false)
  have hn := fun w => run_neq_held_nil (P := Tryd.prog) (w := w) 88 211 (.pointer (some e0)) (by kernel_rfl)
  have hln : ∃ a0 cap0, dv = .slice a0 ds.length cap0 := by obtain ⟨a, c, e, _⟩ := hds; exact ⟨a, c, e⟩
  obtain ⟨da, dcap, edv⟩ := hln
  have HW := Lib.hid hws
  have HDK := Lib.hid hds
  have HX := Lib.hid hE
  clear hws hds hE
  have zl : (8 : Int) < ((ds.length : Nat) : Int) := by omega
  have zd : decide (((ds.length : Nat) : Int) ≤ 8) = false := decide_eq_false (by omega)
  generalize ds.length = n at *
  clear hv hn2 ha hl
  subst edv
  go_enter Tryd.func27, Tryd.ntmps27
  go_upto_region 1 with (fail)
  refine abs_world (fun W => W.heap[w.heap.size]? = some (.cells (roomC wd hg sv) 34 (0, 0)) ∧ Below w.heap.size w W) ⟨heap_alloc_new _ _, (Below.refl _ _).alloc (Nat.le_refl _) _⟩ ?_
  rintro W ⟨h0, hbz⟩
  have H0 := Lib.hid h0
  have HV := Lib.hid (wins_below HW.out hbz)
  have HD := Lib.hid (dks_below HDK.out hbz)
  replace HX := Lib.hid (errs_below HX.out hbz)
  clear h0 HW HDK
  go_wp2_with (first | (refine wpList_load_partG 34 _ rfl w.heap.size 0 3 rfl rfl 34 (roomC wd hg sv) (0, 0) _ H0.out Tryd.underlying34 rfl info_room (room_fits _ _ _) _ (room_all _ _ _) ?_) | (refine wpList_load_part rfl 34 _ rfl w.heap.size 0 3 rfl 34 (roomC wd hg sv) (0, 0) _ H0.out Tryd.underlying34 rfl info_room (room_fits _ _ _) _ (room_all _ _ _) ?_) | (go_at_call 57; refine (HNM.out _).mono ?_; rintro e w' ⟨rfl, rfl⟩) | (go_at_call 65; refine (HAR.out _ HD.out).mono ?_; rintro e W1 ⟨rfl, hb1⟩; replace H0 := Lib.hid (below_row hb1 H0.out); replace HV := Lib.hid (wins_below HV.out hb1); replace HD := Lib.hid (dks_below HD.out hb1); replace HX := Lib.hid (errs_below HX.out hb1); replace hbz := hbz.trans (hb1.mono hbz.size); clear hb1) | (go_at_call 49; refine (HVR.out _ HV.out).mono ?_; rintro e W2 ⟨rfl, hb2⟩; replace H0 := Lib.hid (below_row hb2 H0.out); replace HV := Lib.hid (wins_below HV.out hb2); replace HD := Lib.hid (dks_below HD.out hb2); replace HX := Lib.hid (errs_below HX.out hb2); replace hbz := hbz.trans (hb2.mono hbz.size); clear hb2) | (go_at_call 48; refine (HRF.out _ HX.out).mono ?_; rintro e W3 ⟨rfl, rfl⟩) | (go_at_call 50; refine (codeOf_any HX.out 1).mono ?_; rintro e W4 ⟨rfl, rfl⟩))
  go_ret2
  exact ⟨rfl, hbz⟩

set_option maxRecDepth 100000 in
set_option maxHeartbeats 4000000 in
theorem iGb_ftft (wd hg : Int) (sv dv : Value) (ws : List Wn) (ds : List Dk) (bd : Nat) (e0 e1 e2 e3 : Addr) (w : World) (hws : WinsAt w sv ws) (hds : DksAt w dv ds) (hE : ErrsAt w e0 e1 e2 e3) (hv : okRm wd hg ws = false) (hn2 : fin32 bd = true) (ha : ds.all (fitD wd hg) = false) (hl : ds.length ≤ 8) :
    Calls Tryd.prog 27 #[.agg (roomC wd hg sv), dv, .float .f32 bd] w fun e w' => e = .returned (.tuple #[.int .u16 0, .int .i64 1]) ∧ Below w.heap.size w w' := by
  have HVR : Hid (∀ V, WinsAt V sv ws → Calls Tryd.prog 49 #[.agg (roomC wd hg sv)] V fun e w' => e = .returned (.bool false) ∧ Below V.heap.size V w') := Lib.hid (fun V h => by have := ValidRoom_any wd hg sv ws V h; rw [hv] at this; exact this)
  have HNM : Hid (∀ V, Calls Tryd.prog 57 #[.float .f32 bd] V fun e w' => e = .returned (.bool true) ∧ V = w') := Lib.hid (fun V => by have := iNumT bd V; rw [hn2] at this; exact this)
  have HAR : Hid (∀ V, DksAt V dv ds → Calls Tryd.prog 65 #[.agg (roomC wd hg sv), dv] V fun e w' => e = .returned (.bool false) ∧ Below V.heap.size V w') := Lib.hid (fun V h => by have := areDesks_any wd hg sv dv ds V h; rw [ha] at this; exact this)
  have HRF : Hid (∀ V, ErrsAt V e0 e1 e2 e3 → Calls Tryd.prog 48 #[.bool false, .bool false, .bool true] V fun e w' => e = .returned (.iface 211 (.pointer (some e0))) ∧ V = w') := Lib.hid (fun V h => refusal_any h false false true)
  have hn := fun w => run_neq_held_nil (P := Tryd.prog) (w := w) 88 211 (.pointer (some e0)) (by kernel_rfl)
  have hln : ∃ a0 cap0, dv = .slice a0 ds.length cap0 := by obtain ⟨a, c, e, _⟩ := hds; exact ⟨a, c, e⟩
  obtain ⟨da, dcap, edv⟩ := hln
  have HW := Lib.hid hws
  have HDK := Lib.hid hds
  have HX := Lib.hid hE
  clear hws hds hE
  have zl : ((ds.length : Nat) : Int) ≤ 8 := by omega
  have zd : decide (((ds.length : Nat) : Int) ≤ 8) = true := decide_eq_true (by omega)
  generalize ds.length = n at *
  clear hv hn2 ha hl
  subst edv
  go_enter Tryd.func27, Tryd.ntmps27
  go_upto_region 1 with (fail)
  refine abs_world (fun W => W.heap[w.heap.size]? = some (.cells (roomC wd hg sv) 34 (0, 0)) ∧ Below w.heap.size w W) ⟨heap_alloc_new _ _, (Below.refl _ _).alloc (Nat.le_refl _) _⟩ ?_
  rintro W ⟨h0, hbz⟩
  have H0 := Lib.hid h0
  have HV := Lib.hid (wins_below HW.out hbz)
  have HD := Lib.hid (dks_below HDK.out hbz)
  replace HX := Lib.hid (errs_below HX.out hbz)
  clear h0 HW HDK
  go_wp2_with (first | (refine wpList_load_partG 34 _ rfl w.heap.size 0 3 rfl rfl 34 (roomC wd hg sv) (0, 0) _ H0.out Tryd.underlying34 rfl info_room (room_fits _ _ _) _ (room_all _ _ _) ?_) | (refine wpList_load_part rfl 34 _ rfl w.heap.size 0 3 rfl 34 (roomC wd hg sv) (0, 0) _ H0.out Tryd.underlying34 rfl info_room (room_fits _ _ _) _ (room_all _ _ _) ?_) | (go_at_call 57; refine (HNM.out _).mono ?_; rintro e w' ⟨rfl, rfl⟩) | (go_at_call 65; refine (HAR.out _ HD.out).mono ?_; rintro e W1 ⟨rfl, hb1⟩; replace H0 := Lib.hid (below_row hb1 H0.out); replace HV := Lib.hid (wins_below HV.out hb1); replace HD := Lib.hid (dks_below HD.out hb1); replace HX := Lib.hid (errs_below HX.out hb1); replace hbz := hbz.trans (hb1.mono hbz.size); clear hb1) | (go_at_call 49; refine (HVR.out _ HV.out).mono ?_; rintro e W2 ⟨rfl, hb2⟩; replace H0 := Lib.hid (below_row hb2 H0.out); replace HV := Lib.hid (wins_below HV.out hb2); replace HD := Lib.hid (dks_below HD.out hb2); replace HX := Lib.hid (errs_below HX.out hb2); replace hbz := hbz.trans (hb2.mono hbz.size); clear hb2) | (go_at_call 48; refine (HRF.out _ HX.out).mono ?_; rintro e W3 ⟨rfl, rfl⟩) | (go_at_call 50; refine (codeOf_any HX.out 1).mono ?_; rintro e W4 ⟨rfl, rfl⟩))
  go_ret2
  exact ⟨rfl, hbz⟩

set_option maxRecDepth 100000 in
set_option maxHeartbeats 4000000 in
theorem iGb_fttf (wd hg : Int) (sv dv : Value) (ws : List Wn) (ds : List Dk) (bd : Nat) (e0 e1 e2 e3 : Addr) (w : World) (hws : WinsAt w sv ws) (hds : DksAt w dv ds) (hE : ErrsAt w e0 e1 e2 e3) (hv : okRm wd hg ws = false) (hn2 : fin32 bd = true) (ha : ds.all (fitD wd hg) = true) (hl : 8 < ds.length) :
    Calls Tryd.prog 27 #[.agg (roomC wd hg sv), dv, .float .f32 bd] w fun e w' => e = .returned (.tuple #[.int .u16 0, .int .i64 1]) ∧ Below w.heap.size w w' := by
  have HVR : Hid (∀ V, WinsAt V sv ws → Calls Tryd.prog 49 #[.agg (roomC wd hg sv)] V fun e w' => e = .returned (.bool false) ∧ Below V.heap.size V w') := Lib.hid (fun V h => by have := ValidRoom_any wd hg sv ws V h; rw [hv] at this; exact this)
  have HNM : Hid (∀ V, Calls Tryd.prog 57 #[.float .f32 bd] V fun e w' => e = .returned (.bool true) ∧ V = w') := Lib.hid (fun V => by have := iNumT bd V; rw [hn2] at this; exact this)
  have HAR : Hid (∀ V, DksAt V dv ds → Calls Tryd.prog 65 #[.agg (roomC wd hg sv), dv] V fun e w' => e = .returned (.bool true) ∧ Below V.heap.size V w') := Lib.hid (fun V h => by have := areDesks_any wd hg sv dv ds V h; rw [ha] at this; exact this)
  have HRF : Hid (∀ V, ErrsAt V e0 e1 e2 e3 → Calls Tryd.prog 48 #[.bool false, .bool true, .bool false] V fun e w' => e = .returned (.iface 211 (.pointer (some e0))) ∧ V = w') := Lib.hid (fun V h => refusal_any h false true false)
  have hn := fun w => run_neq_held_nil (P := Tryd.prog) (w := w) 88 211 (.pointer (some e0)) (by kernel_rfl)
  have hln : ∃ a0 cap0, dv = .slice a0 ds.length cap0 := by obtain ⟨a, c, e, _⟩ := hds; exact ⟨a, c, e⟩
  obtain ⟨da, dcap, edv⟩ := hln
  have HW := Lib.hid hws
  have HDK := Lib.hid hds
  have HX := Lib.hid hE
  clear hws hds hE
  have zl : (8 : Int) < ((ds.length : Nat) : Int) := by omega
  have zd : decide (((ds.length : Nat) : Int) ≤ 8) = false := decide_eq_false (by omega)
  generalize ds.length = n at *
  clear hv hn2 ha hl
  subst edv
  go_enter Tryd.func27, Tryd.ntmps27
  go_upto_region 1 with (fail)
  refine abs_world (fun W => W.heap[w.heap.size]? = some (.cells (roomC wd hg sv) 34 (0, 0)) ∧ Below w.heap.size w W) ⟨heap_alloc_new _ _, (Below.refl _ _).alloc (Nat.le_refl _) _⟩ ?_
  rintro W ⟨h0, hbz⟩
  have H0 := Lib.hid h0
  have HV := Lib.hid (wins_below HW.out hbz)
  have HD := Lib.hid (dks_below HDK.out hbz)
  replace HX := Lib.hid (errs_below HX.out hbz)
  clear h0 HW HDK
  go_wp2_with (first | (refine wpList_load_partG 34 _ rfl w.heap.size 0 3 rfl rfl 34 (roomC wd hg sv) (0, 0) _ H0.out Tryd.underlying34 rfl info_room (room_fits _ _ _) _ (room_all _ _ _) ?_) | (refine wpList_load_part rfl 34 _ rfl w.heap.size 0 3 rfl 34 (roomC wd hg sv) (0, 0) _ H0.out Tryd.underlying34 rfl info_room (room_fits _ _ _) _ (room_all _ _ _) ?_) | (go_at_call 57; refine (HNM.out _).mono ?_; rintro e w' ⟨rfl, rfl⟩) | (go_at_call 65; refine (HAR.out _ HD.out).mono ?_; rintro e W1 ⟨rfl, hb1⟩; replace H0 := Lib.hid (below_row hb1 H0.out); replace HV := Lib.hid (wins_below HV.out hb1); replace HD := Lib.hid (dks_below HD.out hb1); replace HX := Lib.hid (errs_below HX.out hb1); replace hbz := hbz.trans (hb1.mono hbz.size); clear hb1) | (go_at_call 49; refine (HVR.out _ HV.out).mono ?_; rintro e W2 ⟨rfl, hb2⟩; replace H0 := Lib.hid (below_row hb2 H0.out); replace HV := Lib.hid (wins_below HV.out hb2); replace HD := Lib.hid (dks_below HD.out hb2); replace HX := Lib.hid (errs_below HX.out hb2); replace hbz := hbz.trans (hb2.mono hbz.size); clear hb2) | (go_at_call 48; refine (HRF.out _ HX.out).mono ?_; rintro e W3 ⟨rfl, rfl⟩) | (go_at_call 50; refine (codeOf_any HX.out 1).mono ?_; rintro e W4 ⟨rfl, rfl⟩))
  go_ret2
  exact ⟨rfl, hbz⟩

set_option maxRecDepth 100000 in
set_option maxHeartbeats 4000000 in
theorem iGb_fttt (wd hg : Int) (sv dv : Value) (ws : List Wn) (ds : List Dk) (bd : Nat) (e0 e1 e2 e3 : Addr) (w : World) (hws : WinsAt w sv ws) (hds : DksAt w dv ds) (hE : ErrsAt w e0 e1 e2 e3) (hv : okRm wd hg ws = false) (hn2 : fin32 bd = true) (ha : ds.all (fitD wd hg) = true) (hl : ds.length ≤ 8) :
    Calls Tryd.prog 27 #[.agg (roomC wd hg sv), dv, .float .f32 bd] w fun e w' => e = .returned (.tuple #[.int .u16 0, .int .i64 1]) ∧ Below w.heap.size w w' := by
  have HVR : Hid (∀ V, WinsAt V sv ws → Calls Tryd.prog 49 #[.agg (roomC wd hg sv)] V fun e w' => e = .returned (.bool false) ∧ Below V.heap.size V w') := Lib.hid (fun V h => by have := ValidRoom_any wd hg sv ws V h; rw [hv] at this; exact this)
  have HNM : Hid (∀ V, Calls Tryd.prog 57 #[.float .f32 bd] V fun e w' => e = .returned (.bool true) ∧ V = w') := Lib.hid (fun V => by have := iNumT bd V; rw [hn2] at this; exact this)
  have HAR : Hid (∀ V, DksAt V dv ds → Calls Tryd.prog 65 #[.agg (roomC wd hg sv), dv] V fun e w' => e = .returned (.bool true) ∧ Below V.heap.size V w') := Lib.hid (fun V h => by have := areDesks_any wd hg sv dv ds V h; rw [ha] at this; exact this)
  have HRF : Hid (∀ V, ErrsAt V e0 e1 e2 e3 → Calls Tryd.prog 48 #[.bool false, .bool true, .bool true] V fun e w' => e = .returned (.iface 211 (.pointer (some e0))) ∧ V = w') := Lib.hid (fun V h => refusal_any h false true true)
  have hn := fun w => run_neq_held_nil (P := Tryd.prog) (w := w) 88 211 (.pointer (some e0)) (by kernel_rfl)
  have hln : ∃ a0 cap0, dv = .slice a0 ds.length cap0 := by obtain ⟨a, c, e, _⟩ := hds; exact ⟨a, c, e⟩
  obtain ⟨da, dcap, edv⟩ := hln
  have HW := Lib.hid hws
  have HDK := Lib.hid hds
  have HX := Lib.hid hE
  clear hws hds hE
  have zl : ((ds.length : Nat) : Int) ≤ 8 := by omega
  have zd : decide (((ds.length : Nat) : Int) ≤ 8) = true := decide_eq_true (by omega)
  generalize ds.length = n at *
  clear hv hn2 ha hl
  subst edv
  go_enter Tryd.func27, Tryd.ntmps27
  go_upto_region 1 with (fail)
  refine abs_world (fun W => W.heap[w.heap.size]? = some (.cells (roomC wd hg sv) 34 (0, 0)) ∧ Below w.heap.size w W) ⟨heap_alloc_new _ _, (Below.refl _ _).alloc (Nat.le_refl _) _⟩ ?_
  rintro W ⟨h0, hbz⟩
  have H0 := Lib.hid h0
  have HV := Lib.hid (wins_below HW.out hbz)
  have HD := Lib.hid (dks_below HDK.out hbz)
  replace HX := Lib.hid (errs_below HX.out hbz)
  clear h0 HW HDK
  go_wp2_with (first | (refine wpList_load_partG 34 _ rfl w.heap.size 0 3 rfl rfl 34 (roomC wd hg sv) (0, 0) _ H0.out Tryd.underlying34 rfl info_room (room_fits _ _ _) _ (room_all _ _ _) ?_) | (refine wpList_load_part rfl 34 _ rfl w.heap.size 0 3 rfl 34 (roomC wd hg sv) (0, 0) _ H0.out Tryd.underlying34 rfl info_room (room_fits _ _ _) _ (room_all _ _ _) ?_) | (go_at_call 57; refine (HNM.out _).mono ?_; rintro e w' ⟨rfl, rfl⟩) | (go_at_call 65; refine (HAR.out _ HD.out).mono ?_; rintro e W1 ⟨rfl, hb1⟩; replace H0 := Lib.hid (below_row hb1 H0.out); replace HV := Lib.hid (wins_below HV.out hb1); replace HD := Lib.hid (dks_below HD.out hb1); replace HX := Lib.hid (errs_below HX.out hb1); replace hbz := hbz.trans (hb1.mono hbz.size); clear hb1) | (go_at_call 49; refine (HVR.out _ HV.out).mono ?_; rintro e W2 ⟨rfl, hb2⟩; replace H0 := Lib.hid (below_row hb2 H0.out); replace HV := Lib.hid (wins_below HV.out hb2); replace HD := Lib.hid (dks_below HD.out hb2); replace HX := Lib.hid (errs_below HX.out hb2); replace hbz := hbz.trans (hb2.mono hbz.size); clear hb2) | (go_at_call 48; refine (HRF.out _ HX.out).mono ?_; rintro e W3 ⟨rfl, rfl⟩) | (go_at_call 50; refine (codeOf_any HX.out 1).mono ?_; rintro e W4 ⟨rfl, rfl⟩))
  go_ret2
  exact ⟨rfl, hbz⟩

set_option maxRecDepth 100000 in
set_option maxHeartbeats 4000000 in
theorem iGb_tfff (wd hg : Int) (sv dv : Value) (ws : List Wn) (ds : List Dk) (bd : Nat) (e0 e1 e2 e3 : Addr) (w : World) (hws : WinsAt w sv ws) (hds : DksAt w dv ds) (hE : ErrsAt w e0 e1 e2 e3) (hv : okRm wd hg ws = true) (hn2 : fin32 bd = false) (hl : 8 < ds.length) :
    Calls Tryd.prog 27 #[.agg (roomC wd hg sv), dv, .float .f32 bd] w fun e w' => e = .returned (.tuple #[.int .u16 0, .int .i64 2]) ∧ Below w.heap.size w w' := by
  have HVR : Hid (∀ V, WinsAt V sv ws → Calls Tryd.prog 49 #[.agg (roomC wd hg sv)] V fun e w' => e = .returned (.bool true) ∧ Below V.heap.size V w') := Lib.hid (fun V h => by have := ValidRoom_any wd hg sv ws V h; rw [hv] at this; exact this)
  have HNM : Hid (∀ V, Calls Tryd.prog 57 #[.float .f32 bd] V fun e w' => e = .returned (.bool false) ∧ V = w') := Lib.hid (fun V => by have := iNumT bd V; rw [hn2] at this; exact this)
  have HRF : Hid (∀ V, ErrsAt V e0 e1 e2 e3 → Calls Tryd.prog 48 #[.bool true, .bool false, .bool false] V fun e w' => e = .returned (.iface 211 (.pointer (some e1))) ∧ V = w') := Lib.hid (fun V h => refusal_any h true false false)
  have hn := fun w => run_neq_held_nil (P := Tryd.prog) (w := w) 88 211 (.pointer (some e1)) (by kernel_rfl)
  have hln : ∃ a0 cap0, dv = .slice a0 ds.length cap0 := by obtain ⟨a, c, e, _⟩ := hds; exact ⟨a, c, e⟩
  obtain ⟨da, dcap, edv⟩ := hln
  have HW := Lib.hid hws
  have HDK := Lib.hid hds
  have HX := Lib.hid hE
  clear hws hds hE
  have zl : (8 : Int) < ((ds.length : Nat) : Int) := by omega
  have zd : decide (((ds.length : Nat) : Int) ≤ 8) = false := decide_eq_false (by omega)
  generalize ds.length = n at *
  clear hv hn2 hl
  subst edv
  go_enter Tryd.func27, Tryd.ntmps27
  go_upto_region 1 with (fail)
  refine abs_world (fun W => W.heap[w.heap.size]? = some (.cells (roomC wd hg sv) 34 (0, 0)) ∧ Below w.heap.size w W) ⟨heap_alloc_new _ _, (Below.refl _ _).alloc (Nat.le_refl _) _⟩ ?_
  rintro W ⟨h0, hbz⟩
  have H0 := Lib.hid h0
  have HV := Lib.hid (wins_below HW.out hbz)
  have HD := Lib.hid (dks_below HDK.out hbz)
  replace HX := Lib.hid (errs_below HX.out hbz)
  clear h0 HW HDK
  go_wp2_with (first | (refine wpList_load_partG 34 _ rfl w.heap.size 0 3 rfl rfl 34 (roomC wd hg sv) (0, 0) _ H0.out Tryd.underlying34 rfl info_room (room_fits _ _ _) _ (room_all _ _ _) ?_) | (refine wpList_load_part rfl 34 _ rfl w.heap.size 0 3 rfl 34 (roomC wd hg sv) (0, 0) _ H0.out Tryd.underlying34 rfl info_room (room_fits _ _ _) _ (room_all _ _ _) ?_) | (go_at_call 57; refine (HNM.out _).mono ?_; rintro e w' ⟨rfl, rfl⟩) | fail | (go_at_call 49; refine (HVR.out _ HV.out).mono ?_; rintro e W2 ⟨rfl, hb2⟩; replace H0 := Lib.hid (below_row hb2 H0.out); replace HV := Lib.hid (wins_below HV.out hb2); replace HD := Lib.hid (dks_below HD.out hb2); replace HX := Lib.hid (errs_below HX.out hb2); replace hbz := hbz.trans (hb2.mono hbz.size); clear hb2) | (go_at_call 48; refine (HRF.out _ HX.out).mono ?_; rintro e W3 ⟨rfl, rfl⟩) | (go_at_call 50; refine (codeOf_any HX.out 2).mono ?_; rintro e W4 ⟨rfl, rfl⟩))
  go_ret2
  exact ⟨rfl, hbz⟩

set_option maxRecDepth 100000 in
set_option maxHeartbeats 4000000 in
theorem iGb_tfft (wd hg : Int) (sv dv : Value) (ws : List Wn) (ds : List Dk) (bd : Nat) (e0 e1 e2 e3 : Addr) (w : World) (hws : WinsAt w sv ws) (hds : DksAt w dv ds) (hE : ErrsAt w e0 e1 e2 e3) (hv : okRm wd hg ws = true) (hn2 : fin32 bd = false) (hl : ds.length ≤ 8) :
    Calls Tryd.prog 27 #[.agg (roomC wd hg sv), dv, .float .f32 bd] w fun e w' => e = .returned (.tuple #[.int .u16 0, .int .i64 2]) ∧ Below w.heap.size w w' := by
  have HVR : Hid (∀ V, WinsAt V sv ws → Calls Tryd.prog 49 #[.agg (roomC wd hg sv)] V fun e w' => e = .returned (.bool true) ∧ Below V.heap.size V w') := Lib.hid (fun V h => by have := ValidRoom_any wd hg sv ws V h; rw [hv] at this; exact this)
  have HNM : Hid (∀ V, Calls Tryd.prog 57 #[.float .f32 bd] V fun e w' => e = .returned (.bool false) ∧ V = w') := Lib.hid (fun V => by have := iNumT bd V; rw [hn2] at this; exact this)
  have HRF : Hid (∀ V, ErrsAt V e0 e1 e2 e3 → Calls Tryd.prog 48 #[.bool true, .bool false, .bool true] V fun e w' => e = .returned (.iface 211 (.pointer (some e1))) ∧ V = w') := Lib.hid (fun V h => refusal_any h true false true)
  have hn := fun w => run_neq_held_nil (P := Tryd.prog) (w := w) 88 211 (.pointer (some e1)) (by kernel_rfl)
  have hln : ∃ a0 cap0, dv = .slice a0 ds.length cap0 := by obtain ⟨a, c, e, _⟩ := hds; exact ⟨a, c, e⟩
  obtain ⟨da, dcap, edv⟩ := hln
  have HW := Lib.hid hws
  have HDK := Lib.hid hds
  have HX := Lib.hid hE
  clear hws hds hE
  have zl : ((ds.length : Nat) : Int) ≤ 8 := by omega
  have zd : decide (((ds.length : Nat) : Int) ≤ 8) = true := decide_eq_true (by omega)
  generalize ds.length = n at *
  clear hv hn2 hl
  subst edv
  go_enter Tryd.func27, Tryd.ntmps27
  go_upto_region 1 with (fail)
  refine abs_world (fun W => W.heap[w.heap.size]? = some (.cells (roomC wd hg sv) 34 (0, 0)) ∧ Below w.heap.size w W) ⟨heap_alloc_new _ _, (Below.refl _ _).alloc (Nat.le_refl _) _⟩ ?_
  rintro W ⟨h0, hbz⟩
  have H0 := Lib.hid h0
  have HV := Lib.hid (wins_below HW.out hbz)
  have HD := Lib.hid (dks_below HDK.out hbz)
  replace HX := Lib.hid (errs_below HX.out hbz)
  clear h0 HW HDK
  go_wp2_with (first | (refine wpList_load_partG 34 _ rfl w.heap.size 0 3 rfl rfl 34 (roomC wd hg sv) (0, 0) _ H0.out Tryd.underlying34 rfl info_room (room_fits _ _ _) _ (room_all _ _ _) ?_) | (refine wpList_load_part rfl 34 _ rfl w.heap.size 0 3 rfl 34 (roomC wd hg sv) (0, 0) _ H0.out Tryd.underlying34 rfl info_room (room_fits _ _ _) _ (room_all _ _ _) ?_) | (go_at_call 57; refine (HNM.out _).mono ?_; rintro e w' ⟨rfl, rfl⟩) | fail | (go_at_call 49; refine (HVR.out _ HV.out).mono ?_; rintro e W2 ⟨rfl, hb2⟩; replace H0 := Lib.hid (below_row hb2 H0.out); replace HV := Lib.hid (wins_below HV.out hb2); replace HD := Lib.hid (dks_below HD.out hb2); replace HX := Lib.hid (errs_below HX.out hb2); replace hbz := hbz.trans (hb2.mono hbz.size); clear hb2) | (go_at_call 48; refine (HRF.out _ HX.out).mono ?_; rintro e W3 ⟨rfl, rfl⟩) | (go_at_call 50; refine (codeOf_any HX.out 2).mono ?_; rintro e W4 ⟨rfl, rfl⟩))
  go_ret2
  exact ⟨rfl, hbz⟩

set_option maxRecDepth 100000 in
set_option maxHeartbeats 4000000 in
theorem iGb_ttff (wd hg : Int) (sv dv : Value) (ws : List Wn) (ds : List Dk) (bd : Nat) (e0 e1 e2 e3 : Addr) (w : World) (hws : WinsAt w sv ws) (hds : DksAt w dv ds) (hE : ErrsAt w e0 e1 e2 e3) (hv : okRm wd hg ws = true) (hn2 : fin32 bd = true) (ha : ds.all (fitD wd hg) = false) (hl : 8 < ds.length) :
    Calls Tryd.prog 27 #[.agg (roomC wd hg sv), dv, .float .f32 bd] w fun e w' => e = .returned (.tuple #[.int .u16 0, .int .i64 2]) ∧ Below w.heap.size w w' := by
  have HVR : Hid (∀ V, WinsAt V sv ws → Calls Tryd.prog 49 #[.agg (roomC wd hg sv)] V fun e w' => e = .returned (.bool true) ∧ Below V.heap.size V w') := Lib.hid (fun V h => by have := ValidRoom_any wd hg sv ws V h; rw [hv] at this; exact this)
  have HNM : Hid (∀ V, Calls Tryd.prog 57 #[.float .f32 bd] V fun e w' => e = .returned (.bool true) ∧ V = w') := Lib.hid (fun V => by have := iNumT bd V; rw [hn2] at this; exact this)
  have HAR : Hid (∀ V, DksAt V dv ds → Calls Tryd.prog 65 #[.agg (roomC wd hg sv), dv] V fun e w' => e = .returned (.bool false) ∧ Below V.heap.size V w') := Lib.hid (fun V h => by have := areDesks_any wd hg sv dv ds V h; rw [ha] at this; exact this)
  have HRF : Hid (∀ V, ErrsAt V e0 e1 e2 e3 → Calls Tryd.prog 48 #[.bool true, .bool false, .bool false] V fun e w' => e = .returned (.iface 211 (.pointer (some e1))) ∧ V = w') := Lib.hid (fun V h => refusal_any h true false false)
  have hn := fun w => run_neq_held_nil (P := Tryd.prog) (w := w) 88 211 (.pointer (some e1)) (by kernel_rfl)
  have hln : ∃ a0 cap0, dv = .slice a0 ds.length cap0 := by obtain ⟨a, c, e, _⟩ := hds; exact ⟨a, c, e⟩
  obtain ⟨da, dcap, edv⟩ := hln
  have HW := Lib.hid hws
  have HDK := Lib.hid hds
  have HX := Lib.hid hE
  clear hws hds hE
  have zl : (8 : Int) < ((ds.length : Nat) : Int) := by omega
  have zd : decide (((ds.length : Nat) : Int) ≤ 8) = false := decide_eq_false (by omega)
  generalize ds.length = n at *
  clear hv hn2 ha hl
  subst edv
  go_enter Tryd.func27, Tryd.ntmps27
  go_upto_region 1 with (fail)
  refine abs_world (fun W => W.heap[w.heap.size]? = some (.cells (roomC wd hg sv) 34 (0, 0)) ∧ Below w.heap.size w W) ⟨heap_alloc_new _ _, (Below.refl _ _).alloc (Nat.le_refl _) _⟩ ?_
  rintro W ⟨h0, hbz⟩
  have H0 := Lib.hid h0
  have HV := Lib.hid (wins_below HW.out hbz)
  have HD := Lib.hid (dks_below HDK.out hbz)
  replace HX := Lib.hid (errs_below HX.out hbz)
  clear h0 HW HDK
  go_wp2_with (first | (refine wpList_load_partG 34 _ rfl w.heap.size 0 3 rfl rfl 34 (roomC wd hg sv) (0, 0) _ H0.out Tryd.underlying34 rfl info_room (room_fits _ _ _) _ (room_all _ _ _) ?_) | (refine wpList_load_part rfl 34 _ rfl w.heap.size 0 3 rfl 34 (roomC wd hg sv) (0, 0) _ H0.out Tryd.underlying34 rfl info_room (room_fits _ _ _) _ (room_all _ _ _) ?_) | (go_at_call 57; refine (HNM.out _).mono ?_; rintro e w' ⟨rfl, rfl⟩) | (go_at_call 65; refine (HAR.out _ HD.out).mono ?_; rintro e W1 ⟨rfl, hb1⟩; replace H0 := Lib.hid (below_row hb1 H0.out); replace HV := Lib.hid (wins_below HV.out hb1); replace HD := Lib.hid (dks_below HD.out hb1); replace HX := Lib.hid (errs_below HX.out hb1); replace hbz := hbz.trans (hb1.mono hbz.size); clear hb1) | (go_at_call 49; refine (HVR.out _ HV.out).mono ?_; rintro e W2 ⟨rfl, hb2⟩; replace H0 := Lib.hid (below_row hb2 H0.out); replace HV := Lib.hid (wins_below HV.out hb2); replace HD := Lib.hid (dks_below HD.out hb2); replace HX := Lib.hid (errs_below HX.out hb2); replace hbz := hbz.trans (hb2.mono hbz.size); clear hb2) | (go_at_call 48; refine (HRF.out _ HX.out).mono ?_; rintro e W3 ⟨rfl, rfl⟩) | (go_at_call 50; refine (codeOf_any HX.out 2).mono ?_; rintro e W4 ⟨rfl, rfl⟩))
  go_ret2
  exact ⟨rfl, hbz⟩

set_option maxRecDepth 100000 in
set_option maxHeartbeats 4000000 in
theorem iGb_ttft (wd hg : Int) (sv dv : Value) (ws : List Wn) (ds : List Dk) (bd : Nat) (e0 e1 e2 e3 : Addr) (w : World) (hws : WinsAt w sv ws) (hds : DksAt w dv ds) (hE : ErrsAt w e0 e1 e2 e3) (hv : okRm wd hg ws = true) (hn2 : fin32 bd = true) (ha : ds.all (fitD wd hg) = false) (hl : ds.length ≤ 8) :
    Calls Tryd.prog 27 #[.agg (roomC wd hg sv), dv, .float .f32 bd] w fun e w' => e = .returned (.tuple #[.int .u16 0, .int .i64 2]) ∧ Below w.heap.size w w' := by
  have HVR : Hid (∀ V, WinsAt V sv ws → Calls Tryd.prog 49 #[.agg (roomC wd hg sv)] V fun e w' => e = .returned (.bool true) ∧ Below V.heap.size V w') := Lib.hid (fun V h => by have := ValidRoom_any wd hg sv ws V h; rw [hv] at this; exact this)
  have HNM : Hid (∀ V, Calls Tryd.prog 57 #[.float .f32 bd] V fun e w' => e = .returned (.bool true) ∧ V = w') := Lib.hid (fun V => by have := iNumT bd V; rw [hn2] at this; exact this)
  have HAR : Hid (∀ V, DksAt V dv ds → Calls Tryd.prog 65 #[.agg (roomC wd hg sv), dv] V fun e w' => e = .returned (.bool false) ∧ Below V.heap.size V w') := Lib.hid (fun V h => by have := areDesks_any wd hg sv dv ds V h; rw [ha] at this; exact this)
  have HRF : Hid (∀ V, ErrsAt V e0 e1 e2 e3 → Calls Tryd.prog 48 #[.bool true, .bool false, .bool true] V fun e w' => e = .returned (.iface 211 (.pointer (some e1))) ∧ V = w') := Lib.hid (fun V h => refusal_any h true false true)
  have hn := fun w => run_neq_held_nil (P := Tryd.prog) (w := w) 88 211 (.pointer (some e1)) (by kernel_rfl)
  have hln : ∃ a0 cap0, dv = .slice a0 ds.length cap0 := by obtain ⟨a, c, e, _⟩ := hds; exact ⟨a, c, e⟩
  obtain ⟨da, dcap, edv⟩ := hln
  have HW := Lib.hid hws
  have HDK := Lib.hid hds
  have HX := Lib.hid hE
  clear hws hds hE
  have zl : ((ds.length : Nat) : Int) ≤ 8 := by omega
  have zd : decide (((ds.length : Nat) : Int) ≤ 8) = true := decide_eq_true (by omega)
  generalize ds.length = n at *
  clear hv hn2 ha hl
  subst edv
  go_enter Tryd.func27, Tryd.ntmps27
  go_upto_region 1 with (fail)
  refine abs_world (fun W => W.heap[w.heap.size]? = some (.cells (roomC wd hg sv) 34 (0, 0)) ∧ Below w.heap.size w W) ⟨heap_alloc_new _ _, (Below.refl _ _).alloc (Nat.le_refl _) _⟩ ?_
  rintro W ⟨h0, hbz⟩
  have H0 := Lib.hid h0
  have HV := Lib.hid (wins_below HW.out hbz)
  have HD := Lib.hid (dks_below HDK.out hbz)
  replace HX := Lib.hid (errs_below HX.out hbz)
  clear h0 HW HDK
  go_wp2_with (first | (refine wpList_load_partG 34 _ rfl w.heap.size 0 3 rfl rfl 34 (roomC wd hg sv) (0, 0) _ H0.out Tryd.underlying34 rfl info_room (room_fits _ _ _) _ (room_all _ _ _) ?_) | (refine wpList_load_part rfl 34 _ rfl w.heap.size 0 3 rfl 34 (roomC wd hg sv) (0, 0) _ H0.out Tryd.underlying34 rfl info_room (room_fits _ _ _) _ (room_all _ _ _) ?_) | (go_at_call 57; refine (HNM.out _).mono ?_; rintro e w' ⟨rfl, rfl⟩) | (go_at_call 65; refine (HAR.out _ HD.out).mono ?_; rintro e W1 ⟨rfl, hb1⟩; replace H0 := Lib.hid (below_row hb1 H0.out); replace HV := Lib.hid (wins_below HV.out hb1); replace HD := Lib.hid (dks_below HD.out hb1); replace HX := Lib.hid (errs_below HX.out hb1); replace hbz := hbz.trans (hb1.mono hbz.size); clear hb1) | (go_at_call 49; refine (HVR.out _ HV.out).mono ?_; rintro e W2 ⟨rfl, hb2⟩; replace H0 := Lib.hid (below_row hb2 H0.out); replace HV := Lib.hid (wins_below HV.out hb2); replace HD := Lib.hid (dks_below HD.out hb2); replace HX := Lib.hid (errs_below HX.out hb2); replace hbz := hbz.trans (hb2.mono hbz.size); clear hb2) | (go_at_call 48; refine (HRF.out _ HX.out).mono ?_; rintro e W3 ⟨rfl, rfl⟩) | (go_at_call 50; refine (codeOf_any HX.out 2).mono ?_; rintro e W4 ⟨rfl, rfl⟩))
  go_ret2
  exact ⟨rfl, hbz⟩

set_option maxRecDepth 100000 in
set_option maxHeartbeats 4000000 in
theorem iGb_tttf (wd hg : Int) (sv dv : Value) (ws : List Wn) (ds : List Dk) (bd : Nat) (e0 e1 e2 e3 : Addr) (w : World) (hws : WinsAt w sv ws) (hds : DksAt w dv ds) (hE : ErrsAt w e0 e1 e2 e3) (hv : okRm wd hg ws = true) (hn2 : fin32 bd = true) (ha : ds.all (fitD wd hg) = true) (hl : 8 < ds.length) :
    Calls Tryd.prog 27 #[.agg (roomC wd hg sv), dv, .float .f32 bd] w fun e w' => e = .returned (.tuple #[.int .u16 0, .int .i64 3]) ∧ Below w.heap.size w w' := by
  have HVR : Hid (∀ V, WinsAt V sv ws → Calls Tryd.prog 49 #[.agg (roomC wd hg sv)] V fun e w' => e = .returned (.bool true) ∧ Below V.heap.size V w') := Lib.hid (fun V h => by have := ValidRoom_any wd hg sv ws V h; rw [hv] at this; exact this)
  have HNM : Hid (∀ V, Calls Tryd.prog 57 #[.float .f32 bd] V fun e w' => e = .returned (.bool true) ∧ V = w') := Lib.hid (fun V => by have := iNumT bd V; rw [hn2] at this; exact this)
  have HAR : Hid (∀ V, DksAt V dv ds → Calls Tryd.prog 65 #[.agg (roomC wd hg sv), dv] V fun e w' => e = .returned (.bool true) ∧ Below V.heap.size V w') := Lib.hid (fun V h => by have := areDesks_any wd hg sv dv ds V h; rw [ha] at this; exact this)
  have HRF : Hid (∀ V, ErrsAt V e0 e1 e2 e3 → Calls Tryd.prog 48 #[.bool true, .bool true, .bool false] V fun e w' => e = .returned (.iface 211 (.pointer (some e2))) ∧ V = w') := Lib.hid (fun V h => refusal_any h true true false)
  have hn := fun w => run_neq_held_nil (P := Tryd.prog) (w := w) 88 211 (.pointer (some e2)) (by kernel_rfl)
  have hln : ∃ a0 cap0, dv = .slice a0 ds.length cap0 := by obtain ⟨a, c, e, _⟩ := hds; exact ⟨a, c, e⟩
  obtain ⟨da, dcap, edv⟩ := hln
  have HW := Lib.hid hws
  have HDK := Lib.hid hds
  have HX := Lib.hid hE
  clear hws hds hE
  have zl : (8 : Int) < ((ds.length : Nat) : Int) := by omega
  have zd : decide (((ds.length : Nat) : Int) ≤ 8) = false := decide_eq_false (by omega)
  generalize ds.length = n at *
  clear hv hn2 ha hl
  subst edv
  go_enter Tryd.func27, Tryd.ntmps27
  go_upto_region 1 with (fail)
  refine abs_world (fun W => W.heap[w.heap.size]? = some (.cells (roomC wd hg sv) 34 (0, 0)) ∧ Below w.heap.size w W) ⟨heap_alloc_new _ _, (Below.refl _ _).alloc (Nat.le_refl _) _⟩ ?_
  rintro W ⟨h0, hbz⟩
  have H0 := Lib.hid h0
  have HV := Lib.hid (wins_below HW.out hbz)
  have HD := Lib.hid (dks_below HDK.out hbz)
  replace HX := Lib.hid (errs_below HX.out hbz)
  clear h0 HW HDK
  go_wp2_with (first | (refine wpList_load_partG 34 _ rfl w.heap.size 0 3 rfl rfl 34 (roomC wd hg sv) (0, 0) _ H0.out Tryd.underlying34 rfl info_room (room_fits _ _ _) _ (room_all _ _ _) ?_) | (refine wpList_load_part rfl 34 _ rfl w.heap.size 0 3 rfl 34 (roomC wd hg sv) (0, 0) _ H0.out Tryd.underlying34 rfl info_room (room_fits _ _ _) _ (room_all _ _ _) ?_) | (go_at_call 57; refine (HNM.out _).mono ?_; rintro e w' ⟨rfl, rfl⟩) | (go_at_call 65; refine (HAR.out _ HD.out).mono ?_; rintro e W1 ⟨rfl, hb1⟩; replace H0 := Lib.hid (below_row hb1 H0.out); replace HV := Lib.hid (wins_below HV.out hb1); replace HD := Lib.hid (dks_below HD.out hb1); replace HX := Lib.hid (errs_below HX.out hb1); replace hbz := hbz.trans (hb1.mono hbz.size); clear hb1) | (go_at_call 49; refine (HVR.out _ HV.out).mono ?_; rintro e W2 ⟨rfl, hb2⟩; replace H0 := Lib.hid (below_row hb2 H0.out); replace HV := Lib.hid (wins_below HV.out hb2); replace HD := Lib.hid (dks_below HD.out hb2); replace HX := Lib.hid (errs_below HX.out hb2); replace hbz := hbz.trans (hb2.mono hbz.size); clear hb2) | (go_at_call 48; refine (HRF.out _ HX.out).mono ?_; rintro e W3 ⟨rfl, rfl⟩) | (go_at_call 50; refine (codeOf_any HX.out 3).mono ?_; rintro e W4 ⟨rfl, rfl⟩))
  go_ret2
  exact ⟨rfl, hbz⟩

theorem iGb_n (wd hg : Int) (sv dv : Value) (ws : List Wn) (ds : List Dk) (bd : Nat) (e0 e1 e2 e3 : Addr) (w : World) (hws : WinsAt w sv ws) (hds : DksAt w dv ds) (hE : ErrsAt w e0 e1 e2 e3) (c : Int) (hc : codeG (okRm wd hg ws) (fin32 bd) (ds.all (fitD wd hg)) ds.length = c) (hne : c ≠ 0) :
    Calls Tryd.prog 27 #[.agg (roomC wd hg sv), dv, .float .f32 bd] w fun e w' => e = .returned (.tuple #[.int .u16 0, .int .i64 c]) ∧ Below w.heap.size w w' := by
  by_cases hl : ds.length ≤ 8
  · have hl' : ¬ 8 < ds.length := by omega
    cases hv : okRm wd hg ws <;> cases hn : fin32 bd <;> cases ha : ds.all (fitD wd hg) <;> rw [hv, hn, ha] at hc <;> simp [codeG, hl'] at hc <;> subst hc
    · exact iGb_ffft wd hg sv dv ws ds bd e0 e1 e2 e3 w hws hds hE hv hn hl
    · exact iGb_ffft wd hg sv dv ws ds bd e0 e1 e2 e3 w hws hds hE hv hn hl
    · exact iGb_ftft wd hg sv dv ws ds bd e0 e1 e2 e3 w hws hds hE hv hn ha hl
    · exact iGb_fttt wd hg sv dv ws ds bd e0 e1 e2 e3 w hws hds hE hv hn ha hl
    · exact iGb_tfft wd hg sv dv ws ds bd e0 e1 e2 e3 w hws hds hE hv hn hl
    · exact iGb_tfft wd hg sv dv ws ds bd e0 e1 e2 e3 w hws hds hE hv hn hl
    · exact iGb_ttft wd hg sv dv ws ds bd e0 e1 e2 e3 w hws hds hE hv hn ha hl
    · exact absurd rfl hne
  · have hl' : 8 < ds.length := by omega
    cases hv : okRm wd hg ws <;> cases hn : fin32 bd <;> cases ha : ds.all (fitD wd hg) <;> rw [hv, hn, ha] at hc <;> simp [codeG, hl'] at hc <;> subst hc
    · exact iGb_ffff wd hg sv dv ws ds bd e0 e1 e2 e3 w hws hds hE hv hn hl'
    · exact iGb_ffff wd hg sv dv ws ds bd e0 e1 e2 e3 w hws hds hE hv hn hl'
    · exact iGb_ftff wd hg sv dv ws ds bd e0 e1 e2 e3 w hws hds hE hv hn ha hl'
    · exact iGb_fttf wd hg sv dv ws ds bd e0 e1 e2 e3 w hws hds hE hv hn ha hl'
    · exact iGb_tfff wd hg sv dv ws ds bd e0 e1 e2 e3 w hws hds hE hv hn hl'
    · exact iGb_tfff wd hg sv dv ws ds bd e0 e1 e2 e3 w hws hds hE hv hn hl'
    · exact iGb_ttff wd hg sv dv ws ds bd e0 e1 e2 e3 w hws hds hE hv hn ha hl'
    · exact iGb_tttf wd hg sv dv ws ds bd e0 e1 e2 e3 w hws hds hE hv hn ha hl'

set_option maxRecDepth 100000 in
set_option maxHeartbeats 4000000 in
theorem iGb_y (wd hg : Int) (sv dv : Value) (ws : List Wn) (ok : RmOk wd hg ws) (hwf : ∀ x ∈ ws, WnWf x) (ds : List Dk) (bd : Nat) (e0 e1 e2 e3 : Addr) (w : World) (hws : WinsAt w sv ws) (hds : DksAt w dv ds) (hE : ErrsAt w e0 e1 e2 e3) (hv : okRm wd hg ws = true) (hn2 : fin32 bd = true) (ha : ds.all (fitD wd hg) = true) (hl : ds.length ≤ 8) :
    Calls Tryd.prog 27 #[.agg (roomC wd hg sv), dv, .float .f32 bd] w fun e w' => e = .returned (.tuple #[.int .u16 (gbN (gdN wd hg ws ds) bd ds.length), .int .i64 0]) ∧ Below w.heap.size w w' := by
  have HVR : Hid (∀ V, WinsAt V sv ws → Calls Tryd.prog 49 #[.agg (roomC wd hg sv)] V fun e w' => e = .returned (.bool true) ∧ Below V.heap.size V w') := Lib.hid (fun V h => by have := ValidRoom_any wd hg sv ws V h; rw [hv] at this; exact this)
  have HNM : Hid (∀ V, Calls Tryd.prog 57 #[.float .f32 bd] V fun e w' => e = .returned (.bool true) ∧ V = w') := Lib.hid (fun V => by have := iNumT bd V; rw [hn2] at this; exact this)
  have HAR : Hid (∀ V, DksAt V dv ds → Calls Tryd.prog 65 #[.agg (roomC wd hg sv), dv] V fun e w' => e = .returned (.bool true) ∧ Below V.heap.size V w') := Lib.hid (fun V h => by have := areDesks_any wd hg sv dv ds V h; rw [ha] at this; exact this)
  have HRF : Hid (∀ V, ErrsAt V e0 e1 e2 e3 → Calls Tryd.prog 48 #[.bool true, .bool true, .bool true] V fun e w' => e = .returned .nilIface ∧ V = w') := Lib.hid (fun V h => refusal_any h true true true)
  have hn := fun w => run_neq_nil_nil (P := Tryd.prog) (w := w) 88 (by kernel_rfl)
  have HGL : Hid (∀ (k : Nat) (x : Dk), ds[k]? = some x → ∀ W, WinsAt W sv ws → Calls Tryd.prog 62 #[.agg (roomC wd hg sv), .agg (dkC x)] W fun e w' => e = .returned (.float .f32 (gdN wd hg ws ds k)) ∧ Below W.heap.size W w') := Lib.hid (fun k x hx W h => by
    have := glareDk_any wd hg sv ws ok hwf x (List.all_eq_true.1 ha x (List.mem_of_getElem? hx)) W h
    unfold gdN
    rw [hx]
    exact this)
  have hln : ∃ a0 cap0, dv = .slice a0 ds.length cap0 := by obtain ⟨a, c, e, _⟩ := hds; exact ⟨a, c, e⟩
  obtain ⟨da, dcap, edv⟩ := hln
  have HW := Lib.hid hws
  have HDK := Lib.hid hds
  have HX := Lib.hid hE
  clear hws hds hE
  have zl : ((ds.length : Nat) : Int) ≤ 8 := by omega
  have zd : decide (((ds.length : Nat) : Int) ≤ 8) = true := decide_eq_true (by omega)
  generalize gdN wd hg ws ds = d at *
  clear hv hn2 ha hwf ok
  generalize hnn : ds.length = n at *
  have HN := Lib.hid hnn
  clear hnn
  subst edv
  go_enter Tryd.func27, Tryd.ntmps27
  go_upto_region 1 with (fail)
  refine abs_world (fun W => W.heap[w.heap.size]? = some (.cells (roomC wd hg sv) 34 (0, 0)) ∧ Below w.heap.size w W) ⟨heap_alloc_new _ _, (Below.refl _ _).alloc (Nat.le_refl _) _⟩ ?_
  rintro W ⟨h0, hbz⟩
  have H0 := Lib.hid h0
  have HV := Lib.hid (wins_below HW.out hbz)
  have HD := Lib.hid (dks_below HDK.out hbz)
  replace HX := Lib.hid (errs_below HX.out hbz)
  clear h0
  go_upto_region 5 with (first | (refine wpList_load_partG 34 _ rfl w.heap.size 0 3 rfl rfl 34 (roomC wd hg sv) (0, 0) _ H0.out Tryd.underlying34 rfl info_room (room_fits _ _ _) _ (room_all _ _ _) ?_) | (refine wpList_load_part rfl 34 _ rfl w.heap.size 0 3 rfl 34 (roomC wd hg sv) (0, 0) _ H0.out Tryd.underlying34 rfl info_room (room_fits _ _ _) _ (room_all _ _ _) ?_) | (go_at_call 57; refine (HNM.out _).mono ?_; rintro e w' ⟨rfl, rfl⟩) | (go_at_call 65; refine (HAR.out _ HD.out).mono ?_; rintro e W1 ⟨rfl, hb1⟩; replace H0 := Lib.hid (below_row hb1 H0.out); replace HV := Lib.hid (wins_below HV.out hb1); replace HD := Lib.hid (dks_below HD.out hb1); replace HX := Lib.hid (errs_below HX.out hb1); replace hbz := hbz.trans (hb1.mono hbz.size); clear hb1) | (go_at_call 49; refine (HVR.out _ HV.out).mono ?_; rintro e W2 ⟨rfl, hb2⟩; replace H0 := Lib.hid (below_row hb2 H0.out); replace HV := Lib.hid (wins_below HV.out hb2); replace HD := Lib.hid (dks_below HD.out hb2); replace HX := Lib.hid (errs_below HX.out hb2); replace hbz := hbz.trans (hb2.mono hbz.size); clear hb2) | (go_at_call 48; refine (HRF.out _ HX.out).mono ?_; rintro e W3 ⟨rfl, rfl⟩))
  clear HD HX HVR HNM HAR HRF HV hn zd
  have HV := Lib.hid (wins_below HW.out hbz)
  go_wp2
  go_loopw [10, 33] (fun a i wr => ∃ k : Nat, k ≤ n ∧ i = .int .i64 (k : Int) ∧ a = .int .u16 (gbN d bd k) ∧ wr.heap[w.heap.size]? = some (.cells (roomC wd hg sv) 34 (0, 0)) ∧ Below w.heap.size w wr) (fun _ i _ => n - (intOf i).toNat)
  case atStart => exact ⟨0, Nat.zero_le _, rfl, rfl, H0.out, hbz⟩
  case round =>
    clear H0 HV hbz
    obtain ⟨k, hk, rfl, rfl, h0, hbz⟩ := hrel
    have H0 := Lib.hid h0
    have HV := Lib.hid (wins_below HW.out hbz)
    clear h0
    by_cases hlt : k < n
    · have hx : ds[k]? = some (ds[k]'(by rw [HN.out]; exact hlt)) := List.getElem?_eq_getElem _
      obtain ⟨g, o, rfl, hc⟩ := dk_at (dks_below HDK.out hbz) hx
      have HCl := Lib.hid hc
      have HGX := Lib.hid (HGL.out k _ hx)
      generalize (ds[k]'(by rw [HN.out]; exact hlt)) = x at *
      have z1 : (k : Int) < (n : Int) := by omega
      have z2 : (0 : Int) ≤ (k : Int) := by omega
      have hpw := pow16 (show k < 10 by omega)
      have hpw2 : (2 : Int) ^ k % 65536 = (2 : Int) ^ k := hpw
      have HH := Lib.hid (@gbN_hit d bd k)
      have HM := Lib.hid (@gbN_miss d bd k)
      clear hc hx HGL
      go_upto_region 9 with (first | (refine wpList_load_cells rfl 107 _ rfl g (o + k * 3) 3 rfl _ Tryd.underlying107 rfl info_desk (dkC x) rfl HCl.out ?_) | (refine wpList_store_part rfl 107 _ _ rfl _ 0 (dkC x) rfl rfl 107 _ (heap_alloc_new _ _) info_desk (Nat.le_refl _) (dk_one _) ?_; rw [laid_allr _ _ (by rfl)]))
      refine abs_world (fun X => X.heap[w.heap.size]? = some (.cells (roomC wd hg sv) 34 (0, 0)) ∧ X.heap[wr.heap.size]? = some (.cells (dkC x) 107 (0, 0)) ∧ WinsAt X sv ws ∧ Below w.heap.size w X) ⟨below_row (gbZ _ _ _) H0.out, setRow_heap _ _ _ _ _ _ (heap_alloc_new _ _), wins_below HV.out (gbZ _ _ _), hbz.trans ((gbZ _ _ _).mono hbz.size)⟩ ?_
      clear H0 HV hbz
      generalize wr.heap.size = db at *
      rintro X ⟨h0, h1, hv, hbz⟩
      have H0 := Lib.hid h0
      have HB := Lib.hid h1
      have HV := Lib.hid hv
      clear h0 h1 hv
      generalize d k = gv at *
      generalize gbN d bd k = ac at *
      cases hp : (FloatKind.f32.format.order gv bd == some Ordering.gt) with
      | false =>
        have HE := Lib.hid (HM.out hp)
        go_wp2_with (first | (refine wpList_load_part rfl 34 _ rfl w.heap.size 0 3 rfl 34 (roomC wd hg sv) (0, 0) _ H0.out Tryd.underlying34 rfl info_room (room_fits _ _ _) _ (room_all _ _ _) ?_) | (refine wpList_load_part rfl 107 _ rfl db 0 3 rfl 107 (dkC x) (0, 0) _ HB.out Tryd.underlying107 rfl info_desk (dk_fits _) _ (dk_all _) ?_) | (go_at_call 62; refine (HGX.out _ HV.out).mono ?_; rintro e W5 ⟨rfl, hb5⟩; replace H0 := Lib.hid (below_row hb5 H0.out); replace HV := Lib.hid (wins_below HV.out hb5); replace hbz := hbz.trans (hb5.mono hbz.size); clear hb5))
        go_roundw
        case rel => exact ⟨k + 1, by omega, by go_num, by rw [HE.out], H0.out, hbz⟩
        case measure => simp [intOf]; omega
      | true =>
        have HE := Lib.hid (HH.out hp)
        go_wp2_with (first | (refine wpList_load_part rfl 34 _ rfl w.heap.size 0 3 rfl 34 (roomC wd hg sv) (0, 0) _ H0.out Tryd.underlying34 rfl info_room (room_fits _ _ _) _ (room_all _ _ _) ?_) | (refine wpList_load_part rfl 107 _ rfl db 0 3 rfl 107 (dkC x) (0, 0) _ HB.out Tryd.underlying107 rfl info_desk (dk_fits _) _ (dk_all _) ?_) | (go_at_call 62; refine (HGX.out _ HV.out).mono ?_; rintro e W5 ⟨rfl, hb5⟩; replace H0 := Lib.hid (below_row hb5 H0.out); replace HV := Lib.hid (wins_below HV.out hb5); replace hbz := hbz.trans (hb5.mono hbz.size); clear hb5))
        go_roundw
        case rel => exact ⟨k + 1, by omega, by go_num, by rw [HE.out], H0.out, hbz⟩
        case measure => simp [intOf]; omega
    · obtain rfl : k = n := by omega
      go_wp2
      go_ret2
      exact ⟨rfl, hbz⟩

end Go.Proofs.YtdccmdcgbembpaaDoor

namespace Go.Proofs.YtdccmdcgbembpaaDoor
open Go.RowKit

attribute [local go_sem] run_store_f

theorem wpList_load_cellsG {P : Program} {ops : Array Oper} {rest : List Oper} {o : Oper} {a : Act} {w : World} {Q : Exit → Act → World → Prop} (ty : TypeId) (x : Operand) (ho : o.op = .load ty x)
    (g off n : Nat) (hx : a.eval x = .pointer (some ⟨g, off, none⟩)) (hw : Region.wanted o (yielded ops a.tmps) = true) (d : TypeDesc)
    (hu : P.underlying ty = some d) (hd : (match d with | .struct _ | .array _ _ => true | _ => false) = true) (hi : (P.info? ty).map (·.size) = some n)
    (vs : Array Value) (hn : vs.size = n) (hc : ∀ j v, vs[j]? = some v → w.cell? ⟨g, off + j, none⟩ = some v) (h : wpList P ops Q rest (a.put o.dst (.agg vs)) w) : wpList P ops Q (o :: rest) a w := by
  refine wpList_step fun K hK => ?_
  simp only [hw, if_true]
  unfold Oper.wp execOp
  simp only [ho, hx, Instr.loadAt, Instr.sureAddr, Sem.run_bind, Sem.run_pure, Result.andThen_ok, run_loadVar_cells w g off n ty d hu hd hi vs hn hc]
  exact hK _ _ h

theorem l03Dk_any (wd hg : Int) (iw : I8 wd) (ih : I8 hg) (sv : Value) (x : Dk) (hx : DkWf x) (gb : Nat) (T : TypeId) (fr : Nat × Nat) (w : World) (hb0 : w.heap[gb]? = some (.cells (roomC wd hg sv) T fr)) :
    Calls Tryd.prog 112 #[.pointer (some ⟨gb, 0, none⟩), .agg (dkC x)] w fun e w' => e = .returned (.bool (fitD wd hg x)) ∧ Below w.heap.size w w' :=
  l03Desk_any wd hg x.1 x.2.1 x.2.2 iw ih hx.1 hx.2.1 hx.2.2 sv gb T fr w hb0

theorem l03GlDk_any (wd hg : Int) (sv : Value) (ws : List Wn) (ok : RmOk wd hg ws) (hwf : ∀ x ∈ ws, WnWf x) (x : Dk) (hx : fitD wd hg x = true) (gb : Nat) (T : TypeId) (fr : Nat × Nat) (w : World) (hb0 : w.heap[gb]? = some (.cells (roomC wd hg sv) T fr)) (hws : WinsAt w sv ws) :
    Calls Tryd.prog 60 #[.pointer (some ⟨gb, 0, none⟩), .agg (dkC x)] w fun e w' => e = .returned (.float .f32 (dkG wd hg ws x)) ∧ Below w.heap.size w w' :=
  l03Glare_any wd hg sv ws ok hwf x.1 x.2.1 x.2.2 (fitD_get hx).1 gb T fr w hb0 hws

/-- The code of a list of desks. -/
def codeD (ok fine : Bool) (n : Nat) : Int := if !ok then 1 else if !fine then 2 else if 8 < n then 3 else 0

theorem codeG_is (ok num all : Bool) (n : Nat) : codeG ok num all n = codeD ok (num && all) n := rfl

theorem codeD_hit {ok fine : Bool} {n : Nat} (h : codeR ok fine = 0) (hn : 8 < n) : codeD ok fine n = 3 := by
  cases ok <;> cases fine <;> simp_all [codeR, codeD]

theorem codeD_low {ok fine : Bool} {n : Nat} (hn : ¬ 8 < n) : codeD ok fine n = codeR ok fine := by
  cases ok <;> cases fine <;> simp_all [codeR, codeD]

theorem codeD_bad {ok fine : Bool} {n : Nat} (h : codeR ok fine ≠ 0) : codeD ok fine n = codeR ok fine := by
  cases ok <;> cases fine <;> simp_all [codeR, codeD]

set_option maxRecDepth 100000 in
set_option maxHeartbeats 4000000 in
theorem l03Desks_any (wd hg : Int) (iw : I8 wd) (ih : I8 hg) (sv dv : Value) (ws : List Wn) (hwf : ∀ x ∈ ws, WnWf x) (ds : List Dk) (hdf : ∀ x ∈ ds, DkWf x) (fine : Bool) (gb : Nat) (T : TypeId) (fr : Nat × Nat) (w : World) (hb0 : w.heap[gb]? = some (.cells (roomC wd hg sv) T fr)) (hws : WinsAt w sv ws) (hds : DksAt w dv ds) :
    Calls Tryd.prog 63 #[.pointer (some ⟨gb, 0, none⟩), dv, .bool fine] w fun e w' => e = .returned (.int .i64 (codeD (okRm wd hg ws) (fine && ds.all (fitD wd hg)) ds.length)) ∧ Below w.heap.size w w' := by
  have HAS := Lib.hid (fun f W h1 h2 => l03Asked_any wd hg iw ih sv ws hwf f gb T fr W h1 h2)
  have HDS := Lib.hid (fun x (hx : x ∈ ds) W h => l03Dk_any wd hg iw ih sv x (hdf x hx) gb T fr W h)
  have HDK := Lib.hid hds
  have HW := Lib.hid hws
  have HB := Lib.hid hb0
  obtain ⟨a, cap, rfl, hl1, hl2, _⟩ := hds
  unfold maxLen at hl2
  have HCH := Lib.hid (fun h hn => @codeD_hit (okRm wd hg ws) (fine && ds.all (fitD wd hg)) ds.length h hn)
  have HCL := Lib.hid (fun hn => @codeD_low (okRm wd hg ws) (fine && ds.all (fitD wd hg)) ds.length hn)
  have HCB := Lib.hid (fun h => @codeD_bad (okRm wd hg ws) (fine && ds.all (fitD wd hg)) ds.length h)
  have HALL : Hid (ds.take ds.length = ds) := Lib.hid List.take_length
  generalize codeD (okRm wd hg ws) (fine && ds.all (fitD wd hg)) ds.length = cd at *
  generalize hn : ds.length = n at *
  have HN := Lib.hid hn
  have hb : Below w.heap.size w w := Below.refl _ _
  clear hn hdf hwf hws hb0 iw ih
  go_enter Tryd.func63, Tryd.ntmps63
  go_wp2
  go_loopw [2, 7] (fun f i wr => ∃ k : Nat, k ≤ n ∧ i = .int .i64 (k : Int) ∧ f = .bool (fine && (ds.take k).all (fitD wd hg)) ∧ wr.heap[gb]? = some (.cells (roomC wd hg sv) T fr) ∧ Below w.heap.size w wr) (fun _ i _ => n - (intOf i).toNat)
  case atStart => exact ⟨0, Nat.zero_le _, rfl, by rw [List.take_zero]; simp, HB.out, hb⟩
  case round =>
    obtain ⟨k, hk, rfl, rfl, h0, hbz⟩ := hrel
    have H0 := Lib.hid h0
    clear h0 hb
    by_cases hlt : k < n
    · have hx : ds[k]? = some (ds[k]'(by rw [HN.out]; exact hlt)) := List.getElem?_eq_getElem _
      obtain ⟨g, o, rfl, hc⟩ := dk_at (dks_below HDK.out hbz) hx
      have HCl := Lib.hid hc
      have hts : ds.take (k + 1) = ds.take k ++ [ds[k]'(by rw [HN.out]; exact hlt)] := by rw [List.take_succ_eq_append_getElem]
      have HDX := Lib.hid (HDS.out _ (List.mem_of_getElem? hx))
      generalize (ds[k]'(by rw [HN.out]; exact hlt)) = x at *
      have HT : Hid ((fine && (ds.take (k + 1)).all (fitD wd hg)) = ((fine && (ds.take k).all (fitD wd hg)) && fitD wd hg x)) := Lib.hid (by rw [hts, List.all_append]; simp [Bool.and_assoc])
      have z1 : (k : Int) < (n : Int) := by omega
      have z2 : (0 : Int) ≤ (k : Int) := by omega
      clear hc hx hts HDS HAS HCH HCL HCB HALL
      generalize (fine && (ds.take k).all (fitD wd hg)) = b at *
      cases b with
      | false =>
        go_wp2
        go_roundw
        case rel => exact ⟨k + 1, by omega, by go_num, by rw [HT.out]; rfl, H0.out, hbz⟩
        case measure => simp [intOf]; omega
      | true =>
        go_wp2_with (first | (refine wpList_load_cellsG 107 _ rfl g (o + k * 3) 3 rfl rfl _ Tryd.underlying107 rfl info_desk (dkC x) rfl HCl.out ?_) | (go_at_call 112; refine (HDX.out _ H0.out).mono ?_; rintro e W1 ⟨rfl, hb1⟩; replace H0 := Lib.hid (below_row hb1 H0.out); replace hbz := hbz.trans (hb1.mono hbz.size); clear hb1))
        go_roundw
        case rel => exact ⟨k + 1, by omega, by go_num, by rw [HT.out]; rfl, H0.out, hbz⟩
        case measure => simp [intOf]; omega
    · obtain rfl : k = n := by omega
      rw [HALL.out]
      have HAX := Lib.hid (HAS.out (fine && ds.all (fitD wd hg)) wr H0.out (wins_below HW.out hbz))
      generalize (fine && ds.all (fitD wd hg)) = b at *
      generalize codeR (okRm wd hg ws) b = c at *
      clear HALL HAS HDS
      by_cases hc0 : c = 0
      · subst hc0
        by_cases h8 : 8 < k
        · have z8 : (8 : Int) < (k : Int) := by omega
          have E := Lib.hid (HCH.out rfl h8)
          clear HCL HCB HCH
          go_wp2_with (go_at_call 55; refine HAX.out.mono ?_; rintro e W1 ⟨rfl, hb1⟩)
          go_ret
          exact ⟨by rw [E.out]; rfl, hbz.trans (hb1.mono hbz.size)⟩
        · have z8 : (k : Int) ≤ 8 := by omega
          have E := Lib.hid (HCL.out h8)
          clear HCL HCB HCH
          go_wp2_with (go_at_call 55; refine HAX.out.mono ?_; rintro e W1 ⟨rfl, hb1⟩)
          go_ret
          exact ⟨by rw [E.out]; rfl, hbz.trans (hb1.mono hbz.size)⟩
      · have zc : (c == 0) = false := by simpa using hc0
        have E := Lib.hid (HCB.out hc0)
        clear HCL HCB HCH
        go_wp2_with (go_at_call 55; refine HAX.out.mono ?_; rintro e W1 ⟨rfl, hb1⟩)
        go_ret
        exact ⟨by rw [E.out]; rfl, hbz.trans (hb1.mono hbz.size)⟩

set_option maxRecDepth 100000 in
set_option maxHeartbeats 4000000 in
theorem sGb_n (wd hg : Int) (iw : I8 wd) (ih : I8 hg) (sv dv : Value) (ws : List Wn) (hwf : ∀ x ∈ ws, WnWf x) (ds : List Dk) (hdf : ∀ x ∈ ds, DkWf x) (bd : Nat) (w : World) (hws : WinsAt w sv ws) (hds : DksAt w dv ds) (c : Int) (hc : codeG (okRm wd hg ws) (fin32 bd) (ds.all (fitD wd hg)) ds.length = c) (hne : c ≠ 0) :
    Calls Tryd.prog 25 #[.agg (roomC wd hg sv), dv, .float .f32 bd] w fun e w' => e = .returned (.tuple #[.int .u16 0, .int .i64 c]) ∧ Below w.heap.size w w' := by
  have HDD : Hid (∀ V, V.heap[w.heap.size]? = some (.cells (roomC wd hg sv) 34 (0, 0)) → WinsAt V sv ws → DksAt V dv ds → Calls Tryd.prog 63 #[.pointer (some ⟨w.heap.size, 0, none⟩), dv, .bool (fin32 bd)] V fun e w' => e = .returned (.int .i64 c) ∧ Below V.heap.size V w') := Lib.hid (fun V h1 h2 h3 => by have := l03Desks_any wd hg iw ih sv dv ws hwf ds hdf (fin32 bd) w.heap.size 34 (0, 0) V h1 h2 h3; rw [← codeG_is, hc] at this; exact this)
  have hln : ∃ a0 cap0, dv = .slice a0 ds.length cap0 := by obtain ⟨a, c, e, _⟩ := hds; exact ⟨a, c, e⟩
  obtain ⟨da, dcap, edv⟩ := hln
  have HW := Lib.hid hws
  have HDK := Lib.hid hds
  have HNM := Lib.hid (fun V => sNumT bd V)
  clear hws hds
  have zc : (c != 0) = true := bne_iff_ne.2 hne
  generalize ds.length = n at *
  generalize fin32 bd = fb at *
  clear hc hwf hdf iw ih
  subst edv
  go_enter Tryd.func25, Tryd.ntmps25
  go_upto_region 1 with (fail)
  refine abs_world (fun W => W.heap[w.heap.size]? = some (.cells (roomC wd hg sv) 34 (0, 0)) ∧ Below w.heap.size w W) ⟨heap_alloc_new _ _, (Below.refl _ _).alloc (Nat.le_refl _) _⟩ ?_
  rintro W ⟨h0, hbz⟩
  have H0 := Lib.hid h0
  have HV := Lib.hid (wins_below HW.out hbz)
  have HD := Lib.hid (dks_below HDK.out hbz)
  clear h0
  go_wp2_with (first | (go_at_call 56; refine (HNM.out _).mono ?_; rintro e w' ⟨rfl, rfl⟩) | (go_at_call 63; refine (HDD.out _ H0.out HV.out HD.out).mono ?_; rintro e W1 ⟨rfl, hb1⟩; replace H0 := Lib.hid (below_row hb1 H0.out); replace hbz := hbz.trans (hb1.mono hbz.size); clear hb1))
  go_ret2
  exact ⟨rfl, hbz⟩

set_option maxRecDepth 100000 in
set_option maxHeartbeats 4000000 in
theorem sGb_y (wd hg : Int) (iw : I8 wd) (ih : I8 hg) (sv dv : Value) (ws : List Wn) (hwf : ∀ x ∈ ws, WnWf x) (ds : List Dk) (hdf : ∀ x ∈ ds, DkWf x) (bd : Nat) (w : World) (hws : WinsAt w sv ws) (hds : DksAt w dv ds) (ok : RmOk wd hg ws) (hc : codeG (okRm wd hg ws) (fin32 bd) (ds.all (fitD wd hg)) ds.length = 0) (ha : ds.all (fitD wd hg) = true) (hl : ds.length ≤ 8) :
    Calls Tryd.prog 25 #[.agg (roomC wd hg sv), dv, .float .f32 bd] w fun e w' => e = .returned (.tuple #[.int .u16 (gbN (gdN wd hg ws ds) bd ds.length), .int .i64 0]) ∧ Below w.heap.size w w' := by
  have HDD : Hid (∀ V, V.heap[w.heap.size]? = some (.cells (roomC wd hg sv) 34 (0, 0)) → WinsAt V sv ws → DksAt V dv ds → Calls Tryd.prog 63 #[.pointer (some ⟨w.heap.size, 0, none⟩), dv, .bool (fin32 bd)] V fun e w' => e = .returned (.int .i64 0) ∧ Below V.heap.size V w') := Lib.hid (fun V h1 h2 h3 => by have := l03Desks_any wd hg iw ih sv dv ws hwf ds hdf (fin32 bd) w.heap.size 34 (0, 0) V h1 h2 h3; rw [← codeG_is, hc] at this; exact this)
  have HGL : Hid (∀ (k : Nat) (x : Dk), ds[k]? = some x → ∀ W, W.heap[w.heap.size]? = some (.cells (roomC wd hg sv) 34 (0, 0)) → WinsAt W sv ws → Calls Tryd.prog 60 #[.pointer (some ⟨w.heap.size, 0, none⟩), .agg (dkC x)] W fun e w' => e = .returned (.float .f32 (gdN wd hg ws ds k)) ∧ Below W.heap.size W w') := Lib.hid (fun k x hx W h0 h => by
    have := l03GlDk_any wd hg sv ws ok hwf x (List.all_eq_true.1 ha x (List.mem_of_getElem? hx)) w.heap.size 34 (0, 0) W h0 h
    unfold gdN
    rw [hx]
    exact this)
  have hln : ∃ a0 cap0, dv = .slice a0 ds.length cap0 := by obtain ⟨a, c, e, _⟩ := hds; exact ⟨a, c, e⟩
  obtain ⟨da, dcap, edv⟩ := hln
  have HW := Lib.hid hws
  have HDK := Lib.hid hds
  have HNM := Lib.hid (fun V => sNumT bd V)
  clear hws hds
  generalize gdN wd hg ws ds = d at *
  generalize hnn : ds.length = n at *
  have HN := Lib.hid hnn
  generalize fin32 bd = fb at *
  clear hnn hc hwf hdf iw ih ok ha
  subst edv
  go_enter Tryd.func25, Tryd.ntmps25
  go_upto_region 1 with (fail)
  refine abs_world (fun W => W.heap[w.heap.size]? = some (.cells (roomC wd hg sv) 34 (0, 0)) ∧ Below w.heap.size w W) ⟨heap_alloc_new _ _, (Below.refl _ _).alloc (Nat.le_refl _) _⟩ ?_
  rintro W ⟨h0, hbz⟩
  have H0 := Lib.hid h0
  have HV := Lib.hid (wins_below HW.out hbz)
  have HD := Lib.hid (dks_below HDK.out hbz)
  clear h0
  go_upto_region 4 with (first | (go_at_call 56; refine (HNM.out _).mono ?_; rintro e w' ⟨rfl, rfl⟩) | (go_at_call 63; refine (HDD.out _ H0.out HV.out HD.out).mono ?_; rintro e W1 ⟨rfl, hb1⟩; replace H0 := Lib.hid (below_row hb1 H0.out); replace hbz := hbz.trans (hb1.mono hbz.size); clear hb1))
  clear HD HDD HNM HV
  have HV := Lib.hid (wins_below HW.out hbz)
  go_wp2
  go_loopw [9, 10] (fun a i wr => ∃ k : Nat, k ≤ n ∧ i = .int .i64 (k : Int) ∧ a = .int .u16 (gbN d bd k) ∧ wr.heap[w.heap.size]? = some (.cells (roomC wd hg sv) 34 (0, 0)) ∧ Below w.heap.size w wr) (fun _ i _ => n - (intOf i).toNat)
  case atStart => exact ⟨0, Nat.zero_le _, rfl, rfl, H0.out, hbz⟩
  case round =>
    clear H0 HV hbz
    obtain ⟨k, hk, rfl, rfl, h0, hbz⟩ := hrel
    have H0 := Lib.hid h0
    have HV := Lib.hid (wins_below HW.out hbz)
    clear h0
    by_cases hlt : k < n
    · have hx : ds[k]? = some (ds[k]'(by rw [HN.out]; exact hlt)) := List.getElem?_eq_getElem _
      obtain ⟨g, o, rfl, hcx⟩ := dk_at (dks_below HDK.out hbz) hx
      have HCl := Lib.hid hcx
      have HGX := Lib.hid (HGL.out k _ hx)
      generalize (ds[k]'(by rw [HN.out]; exact hlt)) = x at *
      have z1 : (k : Int) < (n : Int) := by omega
      have z2 : (0 : Int) ≤ (k : Int) := by omega
      have hpw := pow16 (show k < 10 by omega)
      have hpw2 : (2 : Int) ^ k % 65536 = (2 : Int) ^ k := hpw
      have hwu : IntKind.u64.wrap (k : Int) = (k : Int) := by rw [IntWalk.u64_in _ (by omega)]
      have HH := Lib.hid (@gbN_hit d bd k)
      have HM := Lib.hid (@gbN_miss d bd k)
      clear hcx hx HGL
      generalize d k = gv at *
      generalize gbN d bd k = ac at *
      cases hp : (FloatKind.f32.format.order gv bd == some Ordering.gt) with
      | false =>
        have HE := Lib.hid (HM.out hp)
        go_wp2_with (first | (refine wpList_load_cells rfl 107 _ rfl g (o + k * 3) 3 rfl _ Tryd.underlying107 rfl info_desk (dkC x) rfl HCl.out ?_) | (go_at_call 60; refine (HGX.out _ H0.out HV.out).mono ?_; rintro e W5 ⟨rfl, hb5⟩; replace H0 := Lib.hid (below_row hb5 H0.out); replace hbz := hbz.trans (hb5.mono hbz.size); clear hb5))
        go_roundw
        case rel => exact ⟨k + 1, by omega, by go_num, by rw [HE.out], H0.out, hbz⟩
        case measure => simp [intOf]; omega
      | true =>
        have HE := Lib.hid (HH.out hp)
        go_wp2_with (first | (refine wpList_load_cells rfl 107 _ rfl g (o + k * 3) 3 rfl _ Tryd.underlying107 rfl info_desk (dkC x) rfl HCl.out ?_) | (go_at_call 60; refine (HGX.out _ H0.out HV.out).mono ?_; rintro e W5 ⟨rfl, hb5⟩; replace H0 := Lib.hid (below_row hb5 H0.out); replace hbz := hbz.trans (hb5.mono hbz.size); clear hb5))
        go_roundw
        case rel => exact ⟨k + 1, by omega, by go_num, by rw [HE.out], H0.out, hbz⟩
        case measure => simp [intOf]; omega
    · obtain rfl : k = n := by omega
      go_wp2
      go_ret2
      exact ⟨rfl, hbz⟩

end Go.Proofs.YtdccmdcgbembpaaDoor
