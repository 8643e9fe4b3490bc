/-
  Trees: what a list of them holds, and how the laws' helpers copy it.
-/
import Derived.Test.YtnienahjfocalabRoomE
import Derived.Test.YtnienahjfocalabPart
namespace Go.Proofs.Ytnienahjfocalab
open Go.ChangeShapes Go.WideShapes Go.ChangeAt Go.RowKit Go.Deep Go.Joins

attribute [local go_sem] run_store_f

/-- A tree: where it stands, how wide it is, how high. -/
abbrev Tr := Int × Int × Int
def treeC (x : Tr) : Array Value := #[.int .i16 x.1, .int .i16 x.2.1, .int .i16 x.2.2]
def I16 (z : Int) : Prop := -32768 ≤ z ∧ z ≤ 32767
def TrWf (x : Tr) : Prop := I16 x.1 ∧ I16 x.2.1 ∧ I16 x.2.2
def TreesAt (W : World) (v : Value) (ws : List Tr) : Prop :=
  ∃ a cap, v = .slice a ws.length cap ∧ ws.length ≤ cap ∧ cap ≤ maxLen ∧ ∀ i x, ws[i]? = some x → ∃ g o, a = some ⟨g, o, none⟩ ∧
    W.cell? ⟨g, o + i * 3, none⟩ = some (.int .i16 x.1) ∧ W.cell? ⟨g, o + i * 3 + 1, none⟩ = some (.int .i16 x.2.1) ∧ W.cell? ⟨g, o + i * 3 + 2, none⟩ = some (.int .i16 x.2.2)
theorem trees_below {W W' : World} {v : Value} {ws : List Tr} (h : TreesAt W v ws) (hb : Below W.heap.size W W') : TreesAt W' v ws := by
  obtain ⟨a, cap, h1, h2, h3, h4⟩ := h
  refine ⟨a, cap, h1, h2, h3, fun i x hx => ?_⟩
  obtain ⟨g, o, e, c0, c1, c2⟩ := h4 i x hx
  exact ⟨g, o, e, cell_below hb c0, cell_below hb c1, cell_below hb c2⟩
theorem wf_i16 {z : Int} (h : (Lit.int .i16 z).wf = true) : -32768 ≤ z ∧ z ≤ 32767 := by
  simp [Lit.wf, IntKind.min, IntKind.max, IntKind.signed, IntKind.bits] at h
  omega
set_option maxRecDepth 100000 in
theorem under_treeL : ∃ f0 f1 f2 : Field, Try.prog.underlying 81 = some (.struct #[f0, f1, f2]) ∧ f0.type = 41 ∧ f1.type = 41 ∧ f2.type = 41 ∧ oneCellFields Try.prog #[f0, f1, f2] = true :=
  ⟨_, _, _, Try.underlying81, rfl, rfl, rfl, by kernel_rfl⟩
theorem cells_treeL : Try.prog.cellsOf 81 = 3 := by kernel_rfl
set_option maxRecDepth 100000 in
theorem open_trees {H : Type} {enc : TypeId × Value → H} {W : World} {base : Nat} {spare : Nat → Bool} {held : Bool} {fuel : Nat} {v : Value} {x : DataW H × List MemPlace}
    (h : DataW.trod enc Try.prog W base spare held fuel 22 [v] = some x) : ∃ ws, TreesAt W v ws ∧ ∀ x ∈ ws, TrWf x := by
  obtain ⟨f0, f1, f2, hu, e0, e1, e2, hone⟩ := under_treeL
  rcases open_slice Try.underlying22 h with ⟨hc, _⟩ | ⟨a, len, cap, m, n, D, Pl, hc, _, hl, hm, hmm, _, hi⟩
  · obtain rfl : v = .slice none 0 0 := by simpa using hc
    exact ⟨[], ⟨none, 0, rfl, Nat.le_refl _, by unfold maxLen; omega, fun i x hx => by simp at hx⟩, fun x hx => by cases hx⟩
  · obtain rfl : v = .slice (some a) len cap := by simpa using hc
    have hspot : 0 < len → a.spot = none := by
      intro h0
      obtain ⟨cs', hcs, _⟩ := hi 0 (by rw [hmm]; split <;> omega)
      rw [cells_treeL] at hcs
      obtain ⟨_, hcl, hat⟩ := World.cells?_some hcs
      have g0 := hat 0 (by omega)
      rw [List.getElem?_eq_getElem (by omega)] at g0
      have := World.cell?_spot g0
      simpa [Addr.add] using this
    have key : ∀ i, i < len → ∃ x : Tr, TrWf x ∧ ∃ g o, some a = some ⟨g, o, none⟩ ∧
        W.cell? ⟨g, o + i * 3, none⟩ = some (.int .i16 x.1) ∧ W.cell? ⟨g, o + i * 3 + 1, none⟩ = some (.int .i16 x.2.1) ∧ W.cell? ⟨g, o + i * 3 + 2, none⟩ = some (.int .i16 x.2.2) := by
      intro i hlt
      have him : i < m := by rw [hmm]; split <;> omega
      obtain ⟨cs', hcs, ht⟩ := hi i him
      rw [cells_treeL] at hcs
      obtain ⟨_, hcl, hat⟩ := World.cells?_some hcs
      obtain ⟨y0, y1, y2, n', _, _, h0, h1, h2⟩ := trod_struct3 hu ht
      obtain ⟨o0, k0⟩ := hone_of hone 0 f0 rfl
      obtain ⟨o1, k1⟩ := hone_of hone 1 f1 rfl
      obtain ⟨o2, k2⟩ := hone_of hone 2 f2 rfl
      match cs', hcl with
      | [c0, c1, c2], _ =>
        rw [o0, k0, e0] at h0
        rw [o1, k1, e1] at h1
        rw [o2, k2, e2] at h2
        obtain ⟨z0, q0, _, w0⟩ := DataW.trod_int Try.underlying41 h0
        obtain ⟨z1, q1, _, w1⟩ := DataW.trod_int Try.underlying41 h1
        obtain ⟨z2, q2, _, w2⟩ := DataW.trod_int Try.underlying41 h2
        simp at q0 q1 q2
        subst q0 q1 q2
        have g0 := hat 0 (by omega)
        have g1 := hat 1 (by omega)
        have g2 := hat 2 (by omega)
        have hsp := hspot (by omega)
        obtain ⟨g, o, spot⟩ := a
        obtain rfl : spot = none := hsp
        simp only [addr_add, Nat.add_zero] at g0 g1 g2
        exact ⟨(z0, z1, z2), ⟨wf_i16 w0, wf_i16 w1, wf_i16 w2⟩, g, o, rfl, g0, g1, g2⟩
    obtain ⟨ws, hlen, hall⟩ := list_of len key
    subst hlen
    refine ⟨ws, ⟨some a, cap, rfl, hl, hm, fun i x hx => (hall i x hx).2⟩, fun x hx => ?_⟩
    obtain ⟨i, hi⟩ := List.mem_iff_getElem?.1 hx
    exact (hall i x hi).1
theorem info_tree : (Try.prog.info? 79).map (·.size) = some 3 := by kernel_rfl
theorem info_treeL : (Try.prog.info? 81).map (·.size) = some 3 := by kernel_rfl
theorem tree_fits (x : Tr) : 0 + 3 ≤ (treeC x).size := Nat.le_refl _
theorem tree_all (x : Tr) : (treeC x).extract 0 (0 + 3) = treeC x := rfl
theorem tree_one (x : Tr) : ∀ v ∈ treeC x, v.oneCell' = true := by
  intro v hv
  simp only [treeC, List.mem_toArray, List.mem_cons, List.not_mem_nil, or_false] at hv
  rcases hv with rfl | rfl | rfl <;> rfl
theorem tree_cells {x : Tr} {W : World} {g : Nat} {T : TypeId} {fr : Nat × Nat} (h : W.heap[g]? = some (.cells (treeC x) T fr)) :
    W.cell? ⟨g, 0, none⟩ = some (.int .i16 x.1) ∧ W.cell? ⟨g, 1, none⟩ = some (.int .i16 x.2.1) ∧ W.cell? ⟨g, 2, none⟩ = some (.int .i16 x.2.2) :=
  ⟨by rw [cell_of_row W _ _ _ _ _ h]; rfl, by rw [cell_of_row W _ _ _ _ _ h]; rfl, by rw [cell_of_row W _ _ _ _ _ h]; rfl⟩
theorem tree_at {W : World} {a : Option Addr} {n cap : Nat} {ws : List Tr} (h : TreesAt W (.slice a n cap) ws) {k : Nat} {x : Tr} (hx : ws[k]? = some x) :
    ∃ g o, a = some ⟨g, o, none⟩ ∧ ∀ j v, (treeC x)[j]? = some v → W.cell? ⟨g, o + k * 3 + j, none⟩ = some v := by
  obtain ⟨a', cap', e, _, _, h4⟩ := h
  injection e with e1 e2 e3
  subst e1
  obtain ⟨g, o, rfl, c0, c1, c2⟩ := h4 k x hx
  refine ⟨g, o, rfl, fun j v hv => ?_⟩
  match j, hv with
  | 0, hv => simp [treeC] at hv; subst hv; exact c0
  | 1, hv => simp [treeC] at hv; subst hv; exact c1
  | 2, hv => simp [treeC] at hv; subst hv; exact c2
  | j + 3, hv => simp [treeC] at hv
theorem trees_len {W : World} {a : Option Addr} {n cap : Nat} {ws : List Tr} (h : TreesAt W (.slice a n cap) ws) : n = ws.length ∧ n ≤ cap ∧ cap ≤ maxLen := by
  obtain ⟨a', cap', e, h2, h3, _⟩ := h
  injection e with e1 e2 e3
  subst e2; subst e3
  exact ⟨rfl, h2, h3⟩
def OwnT (w : World) (b : Nat) (v : Value) (ws : List Tr) : Prop :=
  ∃ g cur, v = .slice (some ⟨g, 0, none⟩) ws.length ws.length ∧ b ≤ g ∧ w.heap[g]? = some (.cells cur 79 (0, 0)) ∧ cur.size = ws.length * 3 ∧ ws.length ≤ 1048576 ∧ ∀ k x, ws[k]? = some x → cur.extract (k * 3) (k * 3 + 3) = treeC x
theorem ownT_below {w w' : World} {b B : Nat} {v : Value} {ws : List Tr} (h : OwnT w b v ws) (hb : Below w.heap.size w w') (hB : B ≤ b) : OwnT w' B v ws := by
  obtain ⟨g, cur, h1, h2, h3, h4, h5, h6⟩ := h
  exact ⟨g, cur, h1, by omega, below_row hb h3, h4, h5, h6⟩
theorem ownT_at {w : World} {b : Nat} {v : Value} {ws : List Tr} (h : OwnT w b v ws) : TreesAt w v ws := by
  obtain ⟨g, cur, rfl, h2, h3, h4, h5, h6⟩ := h
  refine ⟨_, _, rfl, Nat.le_refl _, by unfold maxLen; omega, fun k x hx => ⟨g, 0, rfl, ?_, ?_, ?_⟩⟩
  all_goals
    have hk : k < ws.length := (List.getElem?_eq_some_iff.1 hx).1
    have he := h6 k x hx
    rw [cell_of_row w _ _ _ _ _ h3]
  · have : (cur.extract (k * 3) (k * 3 + 3))[0]? = some (.int .i16 x.1) := by rw [he]; rfl
    rw [Array.getElem?_extract] at this
    split at this
    · simpa using this
    · cases this
  · have : (cur.extract (k * 3) (k * 3 + 3))[1]? = some (.int .i16 x.2.1) := by rw [he]; rfl
    rw [Array.getElem?_extract] at this
    split at this
    · simpa using this
    · cases this
  · have : (cur.extract (k * 3) (k * 3 + 3))[2]? = some (.int .i16 x.2.2) := by rw [he]; rfl
    rw [Array.getElem?_extract] at this
    split at this
    · simpa using this
    · cases this
set_option maxRecDepth 100000 in
set_option maxHeartbeats 1000000 in
theorem szTreeS_any (a : Option Addr) (n cap : Nat) (left : Int) (hn : n ≤ 9223372036854775807) (h0 : 0 ≤ left) (h1 : left ≤ 1048576) (w : World) :
    Calls Try.prog 9 #[.slice a n cap, .int .i64 left] w fun e w' => e = .returned (.int .i64 (leftI n left)) ∧ w = w' := by
  unfold leftI
  by_cases h : left - (n : Int) < 0
  · rw [if_pos h]
    go_enter Try.func9, Try.ntmps9
    go_wp2
    go_ret
    exact ⟨rfl, rfl⟩
  · rw [if_neg h]
    go_enter Try.func9, Try.ntmps9
    go_wp2
    go_ret
    exact ⟨rfl, rfl⟩
set_option maxHeartbeats 400000 in
theorem toTree_any (x : Tr) (w : World) :
    Calls Try.prog 39 #[.agg (treeC x)] w fun e w' => e = .returned (.agg (treeC x)) ∧ Below w.heap.size w w' := by
  unfold treeC
  go_enter Try.func39, Try.ntmps39
  go_wp2
  refine bodyPost_ret (v := .agg #[.int .i16 x.1, .int .i16 x.2.1, .int .i16 x.2.2]) (by simp [results, Try.results39, go_sem]) rfl ⟨rfl, ?_⟩
  (repeat' first | exact Below.refl _ _ | assumption | refine Below.alloc ?_ (by first | omega | (simp; done) | (simp; omega)) _ | refine Below.setCell ?_ (by first | omega | (simp; done) | (simp; omega)) _ | refine Below.drew ?_)
theorem infoTI : (Try.prog.info? 79).map (fun i => (i.zero, i.size, i.bytes)) = some (some (.agg #[.int .i16 0, .int .i16 0, .int .i16 0]), 3, 6) := by kernel_rfl
theorem make_trees (n : Nat) (hn : n ≤ 1048576) (w : World) : (Instr.makeSlice 25 (.int .i64 (n : Int)) (.int .i64 (n : Int))).run Try.prog w = .ok (.slice (some ⟨w.heap.size, 0, none⟩) n n) (w.alloc (.cells (madeCells #[.int .i16 0, .int .i16 0, .int .i16 0] (n * 3)) 79)) := by
  obtain ⟨i0, hi, hz0, hz1, hz2⟩ := info_parts infoTI
  have h := run_make (P := Try.prog) w 25 79 i0 _ Try.underlying25 hi hz0 .i64 .i64 (n : Int) (n : Int) (by omega) (Int.le_refl _) (by rw [hz2]; omega) (by omega)
  rw [hz1] at h
  simpa [Value.cells] using h
def RetT (w : World) (ws : List Tr) (e : Ending) (w' : World) : Prop := (∃ v, e = .returned v ∧ OwnT w' w.heap.size v ws) ∧ Below w.heap.size w w'
set_option maxRecDepth 100000 in
set_option maxHeartbeats 1000000 in
theorem toTreeS_any (sv : Value) (ws : List Tr) (hlen : ws.length ≤ 1048576) (w : World) (hws : TreesAt w sv ws) :
    Calls Try.prog 11 #[sv] w fun e w' => RetT w ws e w' := by
  have HW := Lib.hid hws
  obtain ⟨a, cap, rfl, hl1, hl2, _⟩ := hws
  unfold maxLen at hl2
  generalize hn : ws.length = n at *
  have HN := Lib.hid hn
  have hmk := fun w => make_trees n hlen w
  clear hn
  go_enter Try.func11, Try.ntmps11
  go_wp2
  go_loopw [4] (fun i wr => ∃ k : Nat, k ≤ n ∧ i = .int .i64 k ∧ Below w.heap.size w wr ∧ ∃ cur, wr.heap[w.heap.size]? = some (.cells cur 79 (0, 0)) ∧ cur.size = n * 3 ∧ ∀ j x, j < k → ws[j]? = some x → cur.extract (j * 3) (j * 3 + 3) = treeC x) (fun i _ => n - (intOf i).toNat)
  case atStart => exact ⟨0, Nat.zero_le _, rfl, (Below.refl _ _).alloc (Nat.le_refl _) _, _, heap_alloc_new _ _, size_madeCells _ _, fun j x hj => by omega⟩
  case round =>
    clear hmk
    obtain ⟨k, hk, rfl, hb, cur, hg, hs, hp⟩ := hrel
    have HP := Lib.hid hp
    have HG := Lib.hid hg
    have hgl := row_lt hg
    clear hp hg
    by_cases hlt : k < n
    · have hx : ws[k]? = some (ws[k]'(by rw [HN.out]; exact hlt)) := List.getElem?_eq_getElem _
      obtain ⟨g, o, rfl, hc⟩ := tree_at (trees_below HW.out hb) hx
      have HC := Lib.hid hc
      generalize (ws[k]'(by rw [HN.out]; exact hlt)) = x at *
      have HX := Lib.hid hx
      have hks : k * 3 + 3 ≤ cur.size := by omega
      have z1 : (k : Int) < (n : Int) := by omega
      have z2 : (0 : Int) ≤ (k : Int) := by omega
      clear hc hx
      go_wp2_with (first | (refine wpList_load_cells rfl 81 _ rfl g (o + k * 3) 3 rfl _ Try.underlying81 rfl info_treeL (treeC x) rfl HC.out ?_) | (go_at_call 39; refine (toTree_any _ _).mono ?_; rintro e W1 ⟨rfl, hb1⟩) | (refine wpList_store_part rfl 79 _ _ rfl w.heap.size (k * 3) (treeC x) rfl rfl 79 cur (below_row hb1 HG.out) (by kernel_rfl) hks (tree_one _) ?_))
      go_roundw
      case rel =>
        refine ⟨k + 1, by omega, by go_num, below_setRow (hb.trans (hb1.mono hb.size)) (Nat.le_refl _) _, _, setRow_heap _ _ _ _ _ _ (below_row hb1 HG.out), by rw [laid_size _ _ _ hks]; exact hs, fun j y hj hy => ?_⟩
        by_cases e : j = k
        · subst e
          rw [HX.out] at hy
          obtain rfl := Option.some.inj hy
          exact laid_here cur (treeC x) (j * 3) hks
        · rw [laid_there cur (treeC x) (k * 3) (j * 3) 3 hks (by omega)]
          exact HP.out j y (by omega) hy
      case measure => simp [intOf]; omega
    · obtain rfl : k = n := by omega
      have HR : Hid (OwnT wr w.heap.size (.slice (some ⟨w.heap.size, 0, none⟩) k k) ws) := by
        refine ⟨_, cur, by rw [HN.out], Nat.le_refl _, HG.out, by rw [HN.out]; exact hs, by rw [HN.out]; exact hlen, fun j x hx => ?_⟩
        have := (List.getElem?_eq_some_iff.1 hx).1
        exact HP.out j x (by have := HN.out; omega) hx
      go_wp2
      go_ret
      exact ⟨⟨_, rfl, HR.out⟩, hb⟩
set_option maxRecDepth 100000 in
set_option maxHeartbeats 1000000 in
theorem eqTree_any (x : Tr) (w : World) : Calls Try.prog 43 #[.agg (treeC x), .agg (treeC x)] w fun e w' => e = .returned (.bool true) ∧ Below w.heap.size w w' := by
  have HA := Lib.hid (two_at w (.cells (treeC x) 79) (.cells (treeC x) 79))
  go_enter Try.func43, Try.ntmps43
  go_upto_region 1 with (fail)
  refine abs_world (fun W => W.heap[w.heap.size]? = some (.cells (treeC x) 79 (0, 0)) ∧ W.heap[w.heap.size + 1]? = some (.cells (treeC x) 79 (0, 0)) ∧ Below w.heap.size w W) HA.out ?_
  clear HA
  rintro W ⟨h0, h1, hb⟩
  obtain ⟨k0, k1, k2⟩ := tree_cells h0
  obtain ⟨p0, p1, p2⟩ := tree_cells h1
  have z1 : (x.1 != x.1) = false := by simp
  have z2 : (x.2.1 != x.2.1) = false := by simp
  have z3 : (x.2.2 != x.2.2) = false := by simp
  clear h0 h1
  go_wp2
  go_ret
  exact ⟨rfl, hb⟩
set_option maxRecDepth 100000 in
set_option maxHeartbeats 1000000 in
theorem eqTreeS_any (v1 v2 : Value) (ws : List Tr) (w : World) (hv1 : TreesAt w v1 ws) (hv2 : TreesAt w v2 ws) :
    Calls Try.prog 13 #[v1, v2] w fun e w' => e = .returned (.bool true) ∧ Below w.heap.size w w' := by
  have HW1 := Lib.hid hv1
  have HW2 := Lib.hid hv2
  obtain ⟨a1, c1, rfl, hl1, hm1, _⟩ := hv1
  obtain ⟨a2, c2, rfl, hl2, hm2, _⟩ := hv2
  unfold maxLen at hm1 hm2
  generalize hn : ws.length = n at *
  have HN := Lib.hid hn
  have zn : ((n : Int) != (n : Int)) = false := by simp
  clear hn
  go_enter Try.func13, Try.ntmps13
  go_wp2
  go_loopw [5] (fun i wr => ∃ k : Nat, k ≤ n ∧ i = .int .i64 k ∧ Below w.heap.size w wr) (fun i _ => n - (intOf i).toNat)
  case atStart => exact ⟨0, Nat.zero_le _, rfl, Below.refl _ _⟩
  case round =>
    obtain ⟨k, hk, rfl, hb⟩ := hrel
    by_cases hlt : k < n
    · have hx : ws[k]? = some (ws[k]'(by rw [HN.out]; exact hlt)) := List.getElem?_eq_getElem _
      obtain ⟨g1, o1, rfl, hc1⟩ := tree_at (trees_below HW1.out hb) hx
      obtain ⟨g2, o2, rfl, hc2⟩ := tree_at (trees_below HW2.out hb) hx
      have HC1 := Lib.hid hc1
      have HC2 := Lib.hid hc2
      generalize (ws[k]'(by rw [HN.out]; exact hlt)) = x at *
      have z1 : (k : Int) < (n : Int) := by omega
      have z2 : (0 : Int) ≤ (k : Int) := by omega
      have z3 : decide ((k : Int) < (n : Int)) = true := decide_eq_true z1
      clear hc1 hc2 hx
      go_wp2
      refine wp_region_held_drew (S := (fun W => (∀ j v, (treeC x)[j]? = some v → W.cell? ⟨g1, o1 + k * 3 + j, none⟩ = some v) ∧ (∀ j v, (treeC x)[j]? = some v → W.cell? ⟨g2, o2 + k * 3 + j, none⟩ = some v) ∧ Below w.heap.size w W)) (by kernel_rfl) ⟨HC1.out, HC2.out, hb.drew⟩ (fun hHeld => ?_)
      refine take_op (i := 0) (d := 17) (v := ?_) rfl rfl (by kernel_rfl) (by kernel_rfl) (by kernel_rfl) (fun _ _ _ h => h) (Or.inl ⟨by rfl, ?hy0u1⟩) hHeld ?rest0u1
      case hy0u1 =>
        intro w' hS'
        go_simp
        try with_reducible rfl
      simp only [List.setIfInBounds_toArray, List.set_cons_zero, List.set_cons_succ]
      refine take_op (i := 1) (d := 18) (v := ?_) rfl rfl (by kernel_rfl) (by kernel_rfl) (by kernel_rfl) (fun _ _ _ h => h) (Or.inl ⟨by rfl, ?hy1u2⟩) hHeld ?rest1u2
      case hy1u2 =>
        intro w' hS'
        go_simp
        try with_reducible rfl
      simp only [List.setIfInBounds_toArray, List.set_cons_zero, List.set_cons_succ]
      refine take_op (i := 2) (d := 19) (v := ?_) rfl rfl (by kernel_rfl) (by kernel_rfl) (by kernel_rfl) (fun _ _ _ h => h) (Or.inl ⟨by rfl, ?hy2u3⟩) hHeld ?rest2u3
      case hy2u3 =>
        intro w' hS'
        go_simp
        try with_reducible rfl
      simp only [List.setIfInBounds_toArray, List.set_cons_zero, List.set_cons_succ]
      refine take_op (i := 3) (d := 20) (v := .agg (treeC x)) rfl rfl (by kernel_rfl) (by kernel_rfl) (by kernel_rfl) (fun _ _ _ h => h) (yields_cells (by rfl) 79 (.tmp 19) (by rfl) g1 (o1 + k * 3) 3 (by rfl) _ Try.underlying79 rfl info_tree (treeC x) rfl (fun W h => h.1)) hHeld ?_
      simp only [List.setIfInBounds_toArray, List.set_cons_zero, List.set_cons_succ]
      refine take_op (i := 4) (d := 21) (v := ?_) rfl rfl (by kernel_rfl) (by kernel_rfl) (by kernel_rfl) (fun _ _ _ h => h) (Or.inl ⟨by rfl, ?hy4u4⟩) hHeld ?rest4u4
      case hy4u4 =>
        intro w' hS'
        go_simp
        try with_reducible rfl
      simp only [List.setIfInBounds_toArray, List.set_cons_zero, List.set_cons_succ]
      refine take_op (i := 5) (d := 22) (v := ?_) rfl rfl (by kernel_rfl) (by kernel_rfl) (by kernel_rfl) (fun _ _ _ h => h) (Or.inl ⟨by rfl, ?hy5u5⟩) hHeld ?rest5u5
      case hy5u5 =>
        intro w' hS'
        go_simp
        try with_reducible rfl
      simp only [List.setIfInBounds_toArray, List.set_cons_zero, List.set_cons_succ]
      refine take_op (i := 6) (d := 23) (v := ?_) rfl rfl (by kernel_rfl) (by kernel_rfl) (by kernel_rfl) (fun _ _ _ h => h) (Or.inl ⟨by rfl, ?hy6u6⟩) hHeld ?rest6u6
      case hy6u6 =>
        intro w' hS'
        go_simp
        try with_reducible rfl
      simp only [List.setIfInBounds_toArray, List.set_cons_zero, List.set_cons_succ]
      refine take_op (i := 7) (d := 24) (v := .agg (treeC x)) rfl rfl (by kernel_rfl) (by kernel_rfl) (by kernel_rfl) (fun _ _ _ h => h) (yields_cells (by rfl) 79 (.tmp 23) (by rfl) g2 (o2 + k * 3) 3 (by rfl) _ Try.underlying79 rfl info_tree (treeC x) rfl (fun W h => h.2.1)) hHeld ?_
      simp only [List.setIfInBounds_toArray, List.set_cons_zero, List.set_cons_succ]
      refine wpAnyH_ready (rs := [8]) (by kernel_rfl) (by simp) ?_
      refine AllReadyH.cons rfl (fun K hK => ?_) AllReadyH.nil
      go_simp
      refine (eqTree_any x _).mono ?_
      rintro e W1 ⟨rfl, hb1⟩
      refine hK.out _ _ (⟨fun j v h => cell_below hb1 (hHeld.1 j v h), fun j v h => cell_below hb1 (hHeld.2.1 j v h), hHeld.2.2.trans (hb1.mono hHeld.2.2.size)⟩) (fun hHeld2 => ?_)
      clear hK K
      replace hHeld := hHeld2
      clear hHeld2
      refine take_op (i := 9) (d := 26) (v := ?_) rfl rfl (by kernel_rfl) (by kernel_rfl) (by kernel_rfl) (fun _ _ _ h => h) (Or.inl ⟨by rfl, ?hy9u7⟩) hHeld ?rest9u7
      case hy9u7 =>
        intro w' hS'
        go_simp
        try with_reducible rfl
      simp only [List.setIfInBounds_toArray, List.set_cons_zero, List.set_cons_succ]
      refine wpAnyH_done (by kernel_rfl) ?_ _
      have hbx := hHeld.2.2
      clear hHeld hb
      go_wp2
      go_roundw
      case rel => exact ⟨k + 1, by omega, by go_num, hbx⟩
      case measure => simp [intOf]; omega
    · obtain rfl : k = n := by omega
      go_wp2
      go_ret
      exact ⟨rfl, hb⟩

end Go.Proofs.Ytnienahjfocalab
