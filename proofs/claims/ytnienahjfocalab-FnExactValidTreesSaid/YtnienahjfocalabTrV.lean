/-
  Trees: whether they are valid, for the program and the model.
-/
import Derived.Test.YtnienahjfocalabTrA
import Derived.Test.YtnienahjfocalabPart
import Derived.Test.YtnienahjfocalabRoomF
namespace Go.Proofs.Ytnienahjfocalab
open Go.RowKit

attribute [local go_sem] run_store_f

/-- A tree is valid; a list of trees is valid. -/
def fitT (x : Tr) : Bool := inI 0 255 x.1 && (inI 0 128 x.2.1 && inI 0 64 x.2.2)
def okTs (ts : List Tr) : Bool := decide (ts.length ≤ 8) && ts.all fitT

set_option maxHeartbeats 1000000 in
theorem facT_any (a : Int) (w : World) : Calls Try.prog 81 #[.int .i64 a] w fun e w' => e = .returned (.bool (inI 0 255 a)) ∧ w = w' := by
  by_cases h0 : 0 ≤ a
  · by_cases h1 : a < 256
    · have e : inI 0 255 a = true := by simp [inI, h0]; omega
      rw [e]
      go_enter Try.func81, Try.ntmps81
      go_wp2
      go_ret
      exact ⟨rfl, rfl⟩
    · have e : inI 0 255 a = false := by simp [inI]; omega
      rw [e]
      have h1' : 256 ≤ a := by omega
      go_enter Try.func81, Try.ntmps81
      go_wp2
      go_ret
      exact ⟨rfl, rfl⟩
  · have e : inI 0 255 a = false := by simp [inI]; omega
    rw [e]
    have h0' : a < 0 := by omega
    go_enter Try.func81, Try.ntmps81
    go_wp2
    go_ret
    exact ⟨rfl, rfl⟩
theorem facT_is (a : Int) (r : Bool) (h : inI 0 255 a = r) (w : World) : Calls Try.prog 81 #[.int .i64 a] w fun e w' => e = .returned (.bool r) ∧ w = w' := by subst h; exact facT_any a w

set_option maxHeartbeats 1000000 in
theorem facedT_any (a : Int) (w : World) : Calls Try.prog 79 #[.int .i64 a] w fun e w' => e = .returned (.bool (inI 0 255 a)) ∧ w = w' := by
  go_enter Try.func79, Try.ntmps79
  go_wp2_with (go_at_call 80; refine (l00In_ban _ _ _ _).mono ?_; rintro e w' ⟨rfl, rfl⟩)
  go_ret
  exact ⟨rfl, rfl⟩

set_option maxRecDepth 100000 in
set_option maxHeartbeats 1000000 in
theorem vtree_F (x : Tr) (hx : TrWf x) (r : Bool) (hf : inI 0 255 x.1 = r) (e : r = false) (w : World) :
    Calls Try.prog 41 #[.agg (treeC x)] w fun e w' => e = .returned (.bool false) ∧ Below w.heap.size w w' := by
  obtain ⟨⟨x0, x1⟩, ⟨y0, y1⟩, z0, z1⟩ := hx
  have HF := Lib.hid hf
  subst e; clear hf
  go_enter Try.func41, Try.ntmps41
  go_upto_region 1 with (fail)
  refine abs_world (fun W => Below w.heap.size w W ∧ W.heap[w.heap.size]? = some (.cells (treeC x) 79 (0, 0))) ⟨(Below.refl _ _).alloc (Nat.le_refl _) _, heap_alloc_new _ _⟩ ?_
  rintro W ⟨hb, h1⟩
  obtain ⟨k0, k1, k2⟩ := tree_cells h1
  clear h1
  go_wp2_with (go_at_call 81; refine (facT_is _ _ HF.out _).mono ?_; rintro e w' ⟨rfl, rfl⟩)
  go_ret
  first | exact ⟨rfl, hb⟩ | exact ⟨ret_boolR (decide_eq_false (by omega)), hb⟩

set_option maxRecDepth 100000 in
set_option maxHeartbeats 1000000 in
theorem vtree_A (x : Tr) (hx : TrWf x) (r : Bool) (hf : inI 0 255 x.1 = r) (e : r = true) (h : x.2.1 < 0) (w : World) :
    Calls Try.prog 41 #[.agg (treeC x)] w fun e w' => e = .returned (.bool false) ∧ Below w.heap.size w w' := by
  obtain ⟨⟨x0, x1⟩, ⟨y0, y1⟩, z0, z1⟩ := hx
  have HF := Lib.hid hf
  subst e; clear hf
  go_enter Try.func41, Try.ntmps41
  go_upto_region 1 with (fail)
  refine abs_world (fun W => Below w.heap.size w W ∧ W.heap[w.heap.size]? = some (.cells (treeC x) 79 (0, 0))) ⟨(Below.refl _ _).alloc (Nat.le_refl _) _, heap_alloc_new _ _⟩ ?_
  rintro W ⟨hb, h1⟩
  obtain ⟨k0, k1, k2⟩ := tree_cells h1
  clear h1
  go_wp2_with (go_at_call 81; refine (facT_is _ _ HF.out _).mono ?_; rintro e w' ⟨rfl, rfl⟩)
  go_ret
  first | exact ⟨rfl, hb⟩ | exact ⟨ret_boolR (decide_eq_false (by omega)), hb⟩

set_option maxRecDepth 100000 in
set_option maxHeartbeats 1000000 in
theorem vtree_B (x : Tr) (hx : TrWf x) (r : Bool) (hf : inI 0 255 x.1 = r) (e : r = true) (h0 : 0 ≤ x.2.1) (h : 128 < x.2.1) (w : World) :
    Calls Try.prog 41 #[.agg (treeC x)] w fun e w' => e = .returned (.bool false) ∧ Below w.heap.size w w' := by
  obtain ⟨⟨x0, x1⟩, ⟨y0, y1⟩, z0, z1⟩ := hx
  have HF := Lib.hid hf
  subst e; clear hf
  go_enter Try.func41, Try.ntmps41
  go_upto_region 1 with (fail)
  refine abs_world (fun W => Below w.heap.size w W ∧ W.heap[w.heap.size]? = some (.cells (treeC x) 79 (0, 0))) ⟨(Below.refl _ _).alloc (Nat.le_refl _) _, heap_alloc_new _ _⟩ ?_
  rintro W ⟨hb, h1⟩
  obtain ⟨k0, k1, k2⟩ := tree_cells h1
  clear h1
  go_wp2_with (go_at_call 81; refine (facT_is _ _ HF.out _).mono ?_; rintro e w' ⟨rfl, rfl⟩)
  go_ret
  first | exact ⟨rfl, hb⟩ | exact ⟨ret_boolR (decide_eq_false (by omega)), hb⟩

set_option maxRecDepth 100000 in
set_option maxHeartbeats 1000000 in
theorem vtree_C (x : Tr) (hx : TrWf x) (r : Bool) (hf : inI 0 255 x.1 = r) (e : r = true) (h0 : 0 ≤ x.2.1) (h1 : x.2.1 ≤ 128) (h : x.2.2 < 0) (w : World) :
    Calls Try.prog 41 #[.agg (treeC x)] w fun e w' => e = .returned (.bool false) ∧ Below w.heap.size w w' := by
  obtain ⟨⟨x0, x1⟩, ⟨y0, y1⟩, z0, z1⟩ := hx
  have HF := Lib.hid hf
  subst e; clear hf
  go_enter Try.func41, Try.ntmps41
  go_upto_region 1 with (fail)
  refine abs_world (fun W => Below w.heap.size w W ∧ W.heap[w.heap.size]? = some (.cells (treeC x) 79 (0, 0))) ⟨(Below.refl _ _).alloc (Nat.le_refl _) _, heap_alloc_new _ _⟩ ?_
  rintro W ⟨hb, h1⟩
  obtain ⟨k0, k1, k2⟩ := tree_cells h1
  clear h1
  go_wp2_with (go_at_call 81; refine (facT_is _ _ HF.out _).mono ?_; rintro e w' ⟨rfl, rfl⟩)
  go_ret
  first | exact ⟨rfl, hb⟩ | exact ⟨ret_boolR (decide_eq_false (by omega)), hb⟩

set_option maxRecDepth 100000 in
set_option maxHeartbeats 1000000 in
theorem vtree_D (x : Tr) (hx : TrWf x) (r : Bool) (hf : inI 0 255 x.1 = r) (e : r = true) (h0 : 0 ≤ x.2.1) (h1 : x.2.1 ≤ 128) (h2 : 0 ≤ x.2.2) (h : 64 < x.2.2) (w : World) :
    Calls Try.prog 41 #[.agg (treeC x)] w fun e w' => e = .returned (.bool false) ∧ Below w.heap.size w w' := by
  obtain ⟨⟨x0, x1⟩, ⟨y0, y1⟩, z0, z1⟩ := hx
  have HF := Lib.hid hf
  subst e; clear hf
  go_enter Try.func41, Try.ntmps41
  go_upto_region 1 with (fail)
  refine abs_world (fun W => Below w.heap.size w W ∧ W.heap[w.heap.size]? = some (.cells (treeC x) 79 (0, 0))) ⟨(Below.refl _ _).alloc (Nat.le_refl _) _, heap_alloc_new _ _⟩ ?_
  rintro W ⟨hb, h1⟩
  obtain ⟨k0, k1, k2⟩ := tree_cells h1
  clear h1
  go_wp2_with (go_at_call 81; refine (facT_is _ _ HF.out _).mono ?_; rintro e w' ⟨rfl, rfl⟩)
  go_ret
  first | exact ⟨rfl, hb⟩ | exact ⟨ret_boolR (decide_eq_false (by omega)), hb⟩

set_option maxRecDepth 100000 in
set_option maxHeartbeats 1000000 in
theorem vtree_E (x : Tr) (hx : TrWf x) (r : Bool) (hf : inI 0 255 x.1 = r) (e : r = true) (h0 : 0 ≤ x.2.1) (h1 : x.2.1 ≤ 128) (h2 : 0 ≤ x.2.2) (h : x.2.2 ≤ 64) (w : World) :
    Calls Try.prog 41 #[.agg (treeC x)] w fun e w' => e = .returned (.bool true) ∧ Below w.heap.size w w' := by
  obtain ⟨⟨x0, x1⟩, ⟨y0, y1⟩, z0, z1⟩ := hx
  have HF := Lib.hid hf
  subst e; clear hf
  go_enter Try.func41, Try.ntmps41
  go_upto_region 1 with (fail)
  refine abs_world (fun W => Below w.heap.size w W ∧ W.heap[w.heap.size]? = some (.cells (treeC x) 79 (0, 0))) ⟨(Below.refl _ _).alloc (Nat.le_refl _) _, heap_alloc_new _ _⟩ ?_
  rintro W ⟨hb, h1⟩
  obtain ⟨k0, k1, k2⟩ := tree_cells h1
  clear h1
  go_wp2_with (go_at_call 81; refine (facT_is _ _ HF.out _).mono ?_; rintro e w' ⟨rfl, rfl⟩)
  go_ret
  first | exact ⟨rfl, hb⟩ | exact ⟨ret_boolR (decide_eq_false (by omega)), hb⟩

theorem vtree_any (x : Tr) (hx : TrWf x) (w : World) :
    Calls Try.prog 41 #[.agg (treeC x)] w fun e w' => e = .returned (.bool (fitT x)) ∧ Below w.heap.size w w' := by
  unfold fitT
  cases hf : inI 0 255 x.1 with
  | false => exact vtree_F x hx _ hf rfl w
  | true =>
    rw [Bool.true_and]
    by_cases h0 : 0 ≤ x.2.1
    · by_cases h1 : x.2.1 ≤ 128
      · have e1 : inI 0 128 x.2.1 = true := by simp [inI, h0, h1]
        rw [e1, Bool.true_and]
        by_cases h2 : 0 ≤ x.2.2
        · by_cases h3 : x.2.2 ≤ 64
          · have e2 : inI 0 64 x.2.2 = true := by simp [inI, h2, h3]
            rw [e2]; exact vtree_E x hx _ hf rfl h0 h1 h2 h3 w
          · have e2 : inI 0 64 x.2.2 = false := by simp [inI]; omega
            rw [e2]; exact vtree_D x hx _ hf rfl h0 h1 h2 (by omega) w
        · have e2 : inI 0 64 x.2.2 = false := by simp [inI]; omega
          rw [e2]; exact vtree_C x hx _ hf rfl h0 h1 (by omega) w
      · have e1 : inI 0 128 x.2.1 = false := by simp [inI]; omega
        rw [e1, Bool.false_and]; exact vtree_B x hx _ hf rfl h0 (by omega) w
    · have e1 : inI 0 128 x.2.1 = false := by simp [inI]; omega
      rw [e1, Bool.false_and]; exact vtree_A x hx _ hf rfl (by omega) w

set_option maxRecDepth 100000 in
set_option maxHeartbeats 1000000 in
theorem validTr_any (x : Tr) (hx : TrWf x) (w : World) :
    Calls Try.prog 40 #[.agg (treeC x)] w fun e w' => e = .returned (.bool (!fitT x)) ∧ Below w.heap.size w w' := by
  have HX := Lib.hid hx
  clear hx
  go_enter Try.func40, Try.ntmps40
  go_upto_region 1 with (fail)
  refine abs_world (fun W => Below w.heap.size w W ∧ W.heap[w.heap.size]? = some (.cells (treeC x) 79 (0, 0))) ⟨(Below.refl _ _).alloc (Nat.le_refl _) _, heap_alloc_new _ _⟩ ?_
  rintro W ⟨hb, h1⟩
  have H1 := Lib.hid h1
  clear h1
  go_wp2_with (first | (refine wpList_load_part rfl 79 _ rfl w.heap.size 0 3 rfl 79 (treeC x) (0, 0) _ H1.out Try.underlying79 rfl info_tree (tree_fits _) _ (tree_all _) ?_) | (go_at_call 41; refine (vtree_any x HX.out _).mono ?_; rintro e W1 ⟨rfl, hb1⟩))
  go_ret
  exact ⟨rfl, hb.trans (hb1.mono hb.size)⟩

/-- What looking for a tree that is not valid finds. -/
def FoundT (ts : List Tr) (w : World) (e : Ending) (w' : World) : Prop := ∃ r : Int, e = .returned (.int .i64 r) ∧ decide (0 ≤ r) = !ts.all fitT ∧ Below w.heap.size w w'
set_option maxRecDepth 100000 in
set_option maxHeartbeats 1000000 in
theorem indexTr_any (sv : Value) (ws : List Tr) (hwf : ∀ x ∈ ws, TrWf x) (w : World) (hws : TreesAt w sv ws) :
    Calls Try.prog 82 #[sv, .func (.func 40) #[] #[]] w fun e w' => FoundT ws w e w' := by
  have hws' := hws
  obtain ⟨a, cap, rfl, hl1, hl2, _⟩ := hws'
  have HW := Lib.hid hws
  have HWF := Lib.hid hwf
  clear hws hwf
  unfold maxLen at hl2
  generalize hn : ws.length = n at *
  go_enter Try.func82, Try.ntmps82
  go_wp2
  go_loopw [8] (fun i wr => ∃ k : Nat, k ≤ n ∧ i = .int .i64 k ∧ Below w.heap.size w wr ∧ (ws.take k).all fitT = true) (fun i _ => n - (intOf i).toNat)
  case atStart => exact ⟨0, Nat.zero_le _, rfl, Below.refl _ _, rfl⟩
  case round =>
    obtain ⟨k, hk, rfl, hb, hall⟩ := hrel
    have HA := Lib.hid hall
    clear hall
    by_cases hlt : k < n
    · have hx : ws[k]? = some ws[k] := List.getElem?_eq_getElem (by omega)
      obtain ⟨g, o, rfl, hc⟩ := tree_at (trees_below HW.out hb) hx
      have HC := Lib.hid hc
      have hts : ws.take (k + 1) = ws.take k ++ [ws[k]] := by rw [List.take_succ_eq_append_getElem (by omega)]
      have HT := Lib.hid hts
      have hdx := HW.out
      generalize ws[k] = x at *
      have HD : Hid (ws[k]? = some x) := Lib.hid hx
      have HWx := Lib.hid (HWF.out x (List.mem_of_getElem? hx))
      have z1 : (k : Int) < (n : Int) := by omega
      have z2 : (0 : Int) ≤ (k : Int) := by omega
      clear hc hts hx hdx
      cases hf : fitT x with
      | true =>
        have hnf : (!fitT x) = false := by rw [hf]; rfl
        go_wp2_with (first | (refine wpList_load_cells rfl 79 _ rfl g (o + k * 3) 3 rfl _ Try.underlying79 rfl info_tree (treeC x) rfl HC.out ?_) | (go_at_call 40; refine (validTr_any x HWx.out _).mono ?_; rw [hnf]; rintro e W1 ⟨rfl, hb1⟩))
        go_roundw
        case rel => exact ⟨k + 1, by omega, by go_num, hb.trans (hb1.mono hb.size), by rw [HT.out, List.all_append, HA.out]; simp [hf]⟩
        case measure => simp [intOf]; omega
      | false =>
        have hnf : (!fitT x) = true := by rw [hf]; rfl
        go_wp2_with (first | (refine wpList_load_cells rfl 79 _ rfl g (o + k * 3) 3 rfl _ Try.underlying79 rfl info_tree (treeC x) rfl HC.out ?_) | (go_at_call 40; refine (validTr_any x HWx.out _).mono ?_; rw [hnf]; rintro e W1 ⟨rfl, hb1⟩))
        go_ret
        refine ⟨k, rfl, ?_, hb.trans (hb1.mono hb.size)⟩
        have hmem := List.mem_of_getElem? HD.out
        have hall : ws.all fitT = false := by
          rw [Bool.eq_false_iff]
          intro ha
          have := List.all_eq_true.1 ha x hmem
          rw [hf] at this; cases this
        rw [hall]; simp
    · obtain rfl : k = n := by omega
      go_wp2
      go_ret
      refine ⟨-1, rfl, ?_, hb⟩
      have hall := HA.out
      rw [List.take_of_length_le (by omega)] at hall
      rw [hall]; rfl
set_option maxRecDepth 100000 in
set_option maxHeartbeats 1000000 in
theorem containsTr_any (sv : Value) (ws : List Tr) (hwf : ∀ x ∈ ws, TrWf x) (w : World) (hws : TreesAt w sv ws) :
    Calls Try.prog 42 #[sv, .func (.func 40) #[] #[]] w fun e w' => e = .returned (.bool (!ws.all fitT)) ∧ Below w.heap.size w w' := by
  have HC := indexTr_any sv ws hwf w hws
  clear hwf hws
  go_enter Try.func42, Try.ntmps42
  go_wp2_with (go_at_call 82; refine HC.mono ?_; rintro e W1 ⟨r, rfl, hd, hb1⟩)
  go_ret
  first | exact ⟨ret_boolR hd, hb1⟩ | exact ⟨rfl, hb1⟩

set_option maxRecDepth 100000 in
set_option maxHeartbeats 1000000 in
theorem implValidTrees_any (sv : Value) (ts : List Tr) (hwf : ∀ x ∈ ts, TrWf x) (w : World) (hts : TreesAt w sv ts) :
    Calls Try.prog 12 #[sv] w fun e w' => e = .returned (.bool (okTs ts)) ∧ Below w.heap.size w w' := by
  have HC := Lib.hid (fun w h => containsTr_any sv ts hwf w h)
  have HW := Lib.hid hts
  obtain ⟨a, cap, rfl, hl1, hl2, _⟩ := hts
  unfold maxLen at hl2
  clear hwf
  by_cases h8 : ts.length ≤ 8
  · have eo : okTs ts = ts.all fitT := by simp [okTs, h8]
    rw [eo]
    generalize ts.all fitT = ok at *
    have z8 : ((ts.length : Nat) : Int) ≤ 8 := by omega
    clear eo
    go_enter Try.func12, Try.ntmps12
    go_wp2_with (go_at_call 42; refine (HC.out _ HW.out).mono ?_; rintro e W1 ⟨rfl, hb1⟩)
    go_ret
    exact ⟨ret_boolR (by simp), hb1⟩
  · have eo : okTs ts = false := by simp [okTs, h8]
    rw [eo]
    have z8 : (8 : Int) < ((ts.length : Nat) : Int) := by omega
    clear eo HC
    go_enter Try.func12, Try.ntmps12
    go_wp2
    go_ret
    exact ⟨rfl, Below.refl _ _⟩

end Go.Proofs.Ytnienahjfocalab
