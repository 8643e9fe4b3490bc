/-
  Rooms copied, measured and compared by the laws' helpers.
-/
import Derived.Test.YtddnfbpgldchcaaDoorRoomL
import Derived.Test.YtddnfbpgldchcaaDoorSameN
import Derived.Laws.MakeOwn
import Derived.OwnWalk
namespace Go.Proofs.YtddnfbpgldchcaaDoor
open Go.RowKit

attribute [local go_sem] run_store_f

theorem laid_here (cs vs : Array Value) (off : Nat) (h : off + vs.size ≤ cs.size) : (laid cs vs off).extract off (off + vs.size) = vs := by
  apply Array.ext'
  rw [Array.toList_extract, List.extract_eq_take_drop, Nat.add_sub_cancel_left]
  unfold laid
  have hl : (cs.toList.take off).length = off := by simp; omega
  rw [List.append_assoc, List.drop_append_of_le_length (by omega), List.drop_of_length_le (by omega), List.nil_append, List.take_append_of_le_length (by simp), List.take_of_length_le (by simp)]
theorem laid_there (cs vs : Array Value) (off j n : Nat) (h : off + vs.size ≤ cs.size) (hj : j + n ≤ off) : (laid cs vs off).extract j (j + n) = cs.extract j (j + n) := by
  apply Array.ext'
  rw [Array.toList_extract, Array.toList_extract, List.extract_eq_take_drop, List.extract_eq_take_drop, Nat.add_sub_cancel_left]
  unfold laid
  have hl : (cs.toList.take off).length = off := by simp; omega
  rw [List.append_assoc, List.drop_append_of_le_length (by omega), List.take_append_of_le_length (by simp; omega), List.drop_take, List.take_take, Nat.min_eq_left (by omega)]

/-- Windows that lie in a block of the call's own. -/
def OwnW (w : World) (b : Nat) (v : Value) (ws : List Wn) : Prop :=
  ∃ g cur, v = .slice (some ⟨g, 0, none⟩) ws.length ws.length ∧ b ≤ g ∧ w.heap[g]? = some (.cells cur 68 (0, 0)) ∧ cur.size = ws.length * 3 ∧ ws.length ≤ 1048576 ∧ ∀ k x, ws[k]? = some x → cur.extract (k * 3) (k * 3 + 3) = winC x
theorem ownW_below {w w' : World} {b B : Nat} {v : Value} {ws : List Wn} (h : OwnW w b v ws) (hb : Below w.heap.size w w') (hB : B ≤ b) : OwnW w' B v ws := by
  obtain ⟨g, cur, h1, h2, h3, h4, h5, h6⟩ := h
  exact ⟨g, cur, h1, by omega, below_row hb h3, h4, h5, h6⟩
theorem ownW_at {w : World} {b : Nat} {v : Value} {ws : List Wn} (h : OwnW w b v ws) : WinsAt w v ws := by
  obtain ⟨g, cur, rfl, h2, h3, h4, h5, h6⟩ := h
  refine ⟨_, _, rfl, Nat.le_refl _, by unfold maxLen; omega, fun k x hx => ⟨g, 0, rfl, ?_, ?_, ?_⟩⟩
  all_goals
    have hk : k < ws.length := (List.getElem?_eq_some_iff.1 hx).1
    have he := h6 k x hx
    rw [cell_of_row w _ _ _ _ _ h3]
  · have : (cur.extract (k * 3) (k * 3 + 3))[0]? = some (.int .i8 x.1) := by rw [he]; rfl
    rw [Array.getElem?_extract] at this
    split at this
    · simpa using this
    · cases this
  · have : (cur.extract (k * 3) (k * 3 + 3))[1]? = some (.int .i8 x.2.1) := by rw [he]; rfl
    rw [Array.getElem?_extract] at this
    split at this
    · simpa using this
    · cases this
  · have : (cur.extract (k * 3) (k * 3 + 3))[2]? = some (.float .f32 x.2.2) := by rw [he]; rfl
    rw [Array.getElem?_extract] at this
    split at this
    · simpa using this
    · cases this

def leftI (n left : Int) : Int := if left - n < 0 then -1 else left - n
set_option maxRecDepth 100000 in
set_option maxHeartbeats 1000000 in
theorem szWindowS_any (a : Option Addr) (n cap : Nat) (left : Int) (hn : n ≤ 9223372036854775807) (h0 : 0 ≤ left) (h1 : left ≤ 1048576) (w : World) :
    Calls Tryd.prog 13 #[.slice a n cap, .int .i64 left] w fun e w' => e = .returned (.int .i64 (leftI n left)) ∧ w = w' := by
  unfold leftI
  by_cases h : left - (n : Int) < 0
  · rw [if_pos h]
    go_enter Tryd.func13, Tryd.ntmps13
    go_wp2
    go_ret
    exact ⟨rfl, rfl⟩
  · rw [if_neg h]
    go_enter Tryd.func13, Tryd.ntmps13
    go_wp2
    go_ret
    exact ⟨rfl, rfl⟩
set_option maxRecDepth 100000 in
set_option maxHeartbeats 1000000 in
theorem szRoom_any (wd hg : Int) (a : Option Addr) (n cap : Nat) (left : Int) (hn : n ≤ 9223372036854775807) (h0 : 0 ≤ left) (h1 : left ≤ 1048576) (w : World) :
    Calls Tryd.prog 4 #[.agg (roomC wd hg (.slice a n cap)), .int .i64 left] w fun e w' => e = .returned (.int .i64 (leftI n left)) ∧ Below w.heap.size w w' := by
  have HZ := Lib.hid (fun w => szWindowS_any a n cap left hn h0 h1 w)
  have hl : -1 ≤ leftI n left ∧ leftI n left ≤ 1048576 ∧ (leftI n left < 0 → leftI n left = -1) := by unfold leftI; split <;> omega
  generalize leftI n left = r at *
  unfold roomC
  by_cases hr : r < 0
  · have e := hl.2.2 hr
    subst e
    go_enter Tryd.func4, Tryd.ntmps4
    go_wp2_with (go_at_call 13; refine (HZ.out _).mono ?_; rintro e w' ⟨rfl, rfl⟩)
    go_ret
    exact ⟨rfl, (Below.refl _ _).alloc (Nat.le_refl _) _⟩
  · have hr0 : 0 ≤ r := by omega
    go_enter Tryd.func4, Tryd.ntmps4
    go_wp2_with (go_at_call 13; refine (HZ.out _).mono ?_; rintro e w' ⟨rfl, rfl⟩)
    go_ret
    exact ⟨rfl, (Below.refl _ _).alloc (Nat.le_refl _) _⟩

set_option maxHeartbeats 400000 in
theorem toWindow_any (x : Wn) (w : World) :
    Calls Tryd.prog 33 #[.agg (winC x)] w fun e w' => e = .returned (.agg (winC x)) ∧ Below w.heap.size w w' := by
  unfold winC
  go_enter Tryd.func33, Tryd.ntmps33
  go_wp2
  refine bodyPost_ret (v := .agg #[.int .i8 x.1, .int .i8 x.2.1, .float .f32 x.2.2]) (by simp [results, Tryd.results33, go_sem]) rfl ⟨rfl, ?_⟩
  (repeat' first | exact Below.refl _ _ | assumption | refine Below.alloc ?_ (by first | omega | (simp; done) | (simp; omega)) _ | refine Below.setCell ?_ (by first | omega | (simp; done) | (simp; omega)) _ | refine Below.drew ?_)

theorem infoWI : (Tryd.prog.info? 68).map (fun i => (i.zero, i.size, i.bytes)) = some (some (.agg #[.int .i8 0, .int .i8 0, .float .f32 0]), 3, 8) := by kernel_rfl
theorem make_wins (n : Nat) (hn : n ≤ 1048576) (w : World) : (Instr.makeSlice 31 (.int .i64 (n : Int)) (.int .i64 (n : Int))).run Tryd.prog w = .ok (.slice (some ⟨w.heap.size, 0, none⟩) n n) (w.alloc (.cells (madeCells #[.int .i8 0, .int .i8 0, .float .f32 0] (n * 3)) 68)) := by
  obtain ⟨i0, hi, hz0, hz1, hz2⟩ := info_parts infoWI
  have h := run_make (P := Tryd.prog) w 31 68 i0 _ Tryd.underlying31 hi hz0 .i64 .i64 (n : Int) (n : Int) (by omega) (Int.le_refl _) (by rw [hz2]; omega) (by omega)
  rw [hz1] at h
  simpa [Value.cells] using h

def RetW (w : World) (ws : List Wn) (e : Ending) (w' : World) : Prop := (∃ v, e = .returned v ∧ OwnW w' w.heap.size v ws) ∧ Below w.heap.size w w'
set_option maxRecDepth 100000 in
set_option maxHeartbeats 1000000 in
theorem toWindowS_any (sv : Value) (ws : List Wn) (hlen : ws.length ≤ 1048576) (w : World) (hws : WinsAt w sv ws) :
    Calls Tryd.prog 20 #[sv] w fun e w' => RetW w ws e w' := by
  have HW := Lib.hid hws
  obtain ⟨a, cap, rfl, hl1, hl2, _⟩ := hws
  unfold maxLen at hl2
  generalize hn : ws.length = n at *
  have HN := Lib.hid hn
  have hmk := fun w => make_wins n hlen w
  clear hn
  go_enter Tryd.func20, Tryd.ntmps20
  go_wp2
  go_loopw [4] (fun i wr => ∃ k : Nat, k ≤ n ∧ i = .int .i64 k ∧ Below w.heap.size w wr ∧ ∃ cur, wr.heap[w.heap.size]? = some (.cells cur 68 (0, 0)) ∧ cur.size = n * 3 ∧ ∀ j x, j < k → ws[j]? = some x → cur.extract (j * 3) (j * 3 + 3) = winC x) (fun i _ => n - (intOf i).toNat)
  case atStart => exact ⟨0, Nat.zero_le _, rfl, (Below.refl _ _).alloc (Nat.le_refl _) _, _, heap_alloc_new _ _, size_madeCells _ _, fun j x hj => by omega⟩
  case round =>
    clear hmk
    obtain ⟨k, hk, rfl, hb, cur, hg, hs, hp⟩ := hrel
    have HP := Lib.hid hp
    have HG := Lib.hid hg
    have hgl := row_lt hg
    clear hp hg
    by_cases hlt : k < n
    · have hx : ws[k]? = some (ws[k]'(by rw [HN.out]; exact hlt)) := List.getElem?_eq_getElem _
      obtain ⟨g, o, rfl, hc⟩ := win_at (wins_below HW.out hb) hx
      have HC := Lib.hid hc
      generalize (ws[k]'(by rw [HN.out]; exact hlt)) = x at *
      have HX := Lib.hid hx
      have hks : k * 3 + 3 ≤ cur.size := by omega
      have z1 : (k : Int) < (n : Int) := by omega
      have z2 : (0 : Int) ≤ (k : Int) := by omega
      clear hc hx
      go_wp2_with (first | (refine wpList_load_cells rfl 70 _ rfl g (o + k * 3) 3 rfl _ Tryd.underlying70 rfl info_winL (winC x) rfl HC.out ?_) | (go_at_call 33; refine (toWindow_any _ _).mono ?_; rintro e W1 ⟨rfl, hb1⟩) | (refine wpList_store_part rfl 68 _ _ rfl w.heap.size (k * 3) (winC x) rfl rfl 68 cur (below_row hb1 HG.out) (by kernel_rfl) hks (win_one _) ?_))
      go_roundw
      case rel =>
        refine ⟨k + 1, by omega, by go_num, below_setRow (hb.trans (hb1.mono hb.size)) (Nat.le_refl _) _, _, setRow_heap _ _ _ _ _ _ (below_row hb1 HG.out), by rw [laid_size _ _ _ hks]; exact hs, fun j y hj hy => ?_⟩
        by_cases e : j = k
        · subst e
          rw [HX.out] at hy
          obtain rfl := Option.some.inj hy
          exact laid_here cur (winC x) (j * 3) hks
        · rw [laid_there cur (winC x) (k * 3) (j * 3) 3 hks (by omega)]
          exact HP.out j y (by omega) hy
      case measure => simp [intOf]; omega
    · obtain rfl : k = n := by omega
      have HR : Hid (OwnW wr w.heap.size (.slice (some ⟨w.heap.size, 0, none⟩) k k) ws) := by
        refine ⟨_, cur, by rw [HN.out], Nat.le_refl _, HG.out, by rw [HN.out]; exact hs, by rw [HN.out]; exact hlen, fun j x hx => ?_⟩
        have := (List.getElem?_eq_some_iff.1 hx).1
        exact HP.out j x (by have := HN.out; omega) hx
      go_wp2
      go_ret
      exact ⟨⟨_, rfl, HR.out⟩, hb⟩

theorem laid_allr (cs vs : Array Value) (h : cs.size = vs.size) : laid cs vs 0 = vs := by
  apply Array.ext'
  simp [laid]
  rw [← h]; simp
theorem room_one (wd hg : Int) {W : World} {b : Nat} {v : Value} {ws : List Wn} (h : OwnW W b v ws) : ∀ u ∈ roomC wd hg v, u.oneCell' = true := by
  obtain ⟨g, cur, rfl, _⟩ := h
  intro u hu
  simp only [roomC, List.mem_toArray, List.mem_cons, List.not_mem_nil, or_false] at hu
  rcases hu with rfl | rfl | rfl <;> rfl
/-- A room that a call has made. -/
def RetR (wd hg : Int) (w : World) (ws : List Wn) (e : Ending) (w' : World) : Prop := (∃ v, e = .returned (.agg (roomC wd hg v)) ∧ OwnW w' w.heap.size v ws) ∧ Below w.heap.size w w'
theorem three_at (w : World) (a b c : Obj) : (((w.alloc a).alloc b).alloc c).heap[w.heap.size]? = some a ∧ (((w.alloc a).alloc b).alloc c).heap[w.heap.size + 1]? = some b ∧ (((w.alloc a).alloc b).alloc c).heap[w.heap.size + 1 + 1]? = some c ∧ Below w.heap.size w (((w.alloc a).alloc b).alloc c) := by
  have key : ∀ (w : World) (o : Obj) (i : Nat), (w.alloc o).heap[i]? = if i = w.heap.size then some o else w.heap[i]? := fun w o i => by
    show (w.heap.push o)[i]? = _
    exact Array.getElem?_push
  refine ⟨?_, ?_, ?_, (((Below.refl _ _).alloc (Nat.le_refl _) _).alloc (by simp) _).alloc (by simp; omega) _⟩
  all_goals simp only [key, World.size_alloc]
  · rw [if_neg (by omega), if_neg (by omega), if_true]
  · rw [if_neg (by omega), if_true]
  · rw [if_true]

set_option maxRecDepth 100000 in
set_option maxHeartbeats 1000000 in
theorem toRoom_any (wd hg : Int) (sv : Value) (ws : List Wn) (hlen : ws.length ≤ 1048576) (w : World) (hws : WinsAt w sv ws) :
    Calls Tryd.prog 6 #[.agg (roomC wd hg sv)] w fun e w' => RetR wd hg w ws e w' := by
  have HW := Lib.hid hws
  clear hws
  go_enter Tryd.func6, Tryd.ntmps6
  go_upto_region 2 with (fail)
  refine abs_world (fun W => W.heap[w.heap.size]? = some (.cells (roomC wd hg sv) 25 (0, 0)) ∧ W.heap[w.heap.size + 1]? = some (.cells (roomC 0 0 (.slice none 0 0)) 33 (0, 0)) ∧ W.heap[w.heap.size + 1 + 1]? = some (.cells (roomC 0 0 (.slice none 0 0)) 33 (0, 0)) ∧ Below w.heap.size w W) (three_at _ _ _ _) ?_
  rintro W ⟨h0, h1, h2, hb⟩
  obtain ⟨k0, k1, k2⟩ := room_cells h0
  obtain ⟨p0, p1, p2⟩ := room_cells h2
  have f0 := frozen_of_row W _ 0 _ _ h2
  have f1 := frozen_of_row W _ 1 _ _ h2
  have H0 := Lib.hid h0
  have H1 := Lib.hid h1
  have H2 := Lib.hid h2
  have hl := row_lt h2
  clear h0 h1 h2
  go_upto_region 4 with (fail)
  refine abs_world (fun V => V.heap[w.heap.size]? = some (.cells (roomC wd hg sv) 25 (0, 0)) ∧ V.heap[w.heap.size + 1]? = some (.cells (roomC 0 0 (.slice none 0 0)) 33 (0, 0)) ∧ V.heap[w.heap.size + 1 + 1]? = some (.cells (roomC wd hg (.slice none 0 0)) 33 (0, 0)) ∧ Below w.heap.size w V) ⟨by rw [heap_setCell_other _ _ _ _ (by first | (simp; done) | (simp; omega)), heap_setCell_other _ _ _ _ (by first | (simp; done) | (simp; omega))]; exact H0.out, by rw [heap_setCell_other _ _ _ _ (by first | (simp; done) | (simp; omega)), heap_setCell_other _ _ _ _ (by first | (simp; done) | (simp; omega))]; exact H1.out, heap_setCell_same _ _ _ _ _ _ (heap_setCell_same _ _ _ _ _ _ H2.out), (hb.setCell (p := ⟨w.heap.size + 1 + 1, 0, none⟩) (by first | (simp; done) | (simp; omega)) _).setCell (p := ⟨w.heap.size + 1 + 1, 1, none⟩) (by first | (simp; done) | (simp; omega)) _⟩ ?_
  clear k0 k1 k2 p0 p1 p2 f0 f1 H0 H1 H2 hl hb
  rintro V ⟨h0, h1, h2, hb⟩
  obtain ⟨k0, k1, k2⟩ := room_cells h0
  have H1 := Lib.hid h1
  have H2 := Lib.hid h2
  have HV := Lib.hid (wins_below HW.out hb)
  have hl := row_lt h2
  clear h0 h1 h2
  go_upto_region 5 with (first | (go_at_call 20; refine (toWindowS_any _ ws hlen _ HV.out).mono ?_; rintro e V1 ⟨⟨v, rfl, hv⟩, hb1⟩; have HV1 := Lib.hid hv; obtain ⟨vg, vcur, rfl, _⟩ := hv; replace H1 := Lib.hid (below_row hb1 H1.out); replace H2 := Lib.hid (below_row hb1 H2.out); replace hb := hb.trans (hb1.mono hb.size); have p2 := (room_cells H2.out).2.2; have f2 := frozen_of_row V1 _ 2 _ _ H2.out))
  have hgv : w.heap.size + 1 + 1 < V.heap.size := hl
  refine abs_world (fun V2 => V2.heap[w.heap.size + 1]? = some (.cells (roomC 0 0 (.slice none 0 0)) 33 (0, 0)) ∧ V2.heap[w.heap.size + 1 + 1]? = some (.cells (roomC wd hg (.slice (some ⟨vg, 0, none⟩) ws.length ws.length)) 33 (0, 0)) ∧ Below w.heap.size w V2 ∧ OwnW V2 V.heap.size (.slice (some ⟨vg, 0, none⟩) ws.length ws.length) ws) ⟨by rw [heap_setCell_other _ _ _ _ (by first | (simp; done) | (simp; omega))]; exact H1.out, heap_setCell_same _ _ _ _ _ _ H2.out, hb.setCell (p := ⟨w.heap.size + 1 + 1, 2, none⟩) (by first | (simp; done) | (simp; omega)) _, by
    obtain ⟨g, cur, e1, e2, e3, e4, e5, e6⟩ := HV1.out
    exact ⟨g, cur, e1, e2, by rw [heap_setCell_other _ _ _ _ (by first | (simp; done) | (simp; omega))]; exact e3, e4, e5, e6⟩⟩ ?_
  clear H1 H2 hb HV1 hb1 p2 f2 HV k0 k1 k2
  rintro V2 ⟨h1, h2, hb, hv⟩
  have H1 := Lib.hid h1
  have H2 := Lib.hid h2
  have HO := Lib.hid hv
  clear h1 h2 hv
  go_wp2_with (first | (refine wpList_load_part rfl 33 _ rfl (w.heap.size + 1 + 1) 0 3 rfl 33 (roomC wd hg (.slice (some ⟨vg, 0, none⟩) ws.length ws.length)) (0, 0) _ H2.out Tryd.underlying33 rfl info_room (room_fits _ _ _) _ (room_all _ _ _) ?_) | (refine wpList_store_part rfl 33 _ _ rfl (w.heap.size + 1) 0 (roomC wd hg (.slice (some ⟨vg, 0, none⟩) ws.length ws.length)) rfl rfl 33 _ H1.out (by kernel_rfl) (Nat.le_refl _) (room_one wd hg HO.out) ?_; rw [laid_allr _ _ (by rfl)]))
  have hfin : OwnW (V2.setRow (w.heap.size + 1) (roomC wd hg (.slice (some ⟨vg, 0, none⟩) ws.length ws.length))) w.heap.size (.slice (some ⟨vg, 0, none⟩) ws.length ws.length) ws := by
    obtain ⟨g, cur, e1, e2, e3, e4, e5, e6⟩ := HO.out
    exact ⟨g, cur, e1, by omega, by rw [setRow_other _ _ _ _ (by omega)]; exact e3, e4, e5, e6⟩
  exact bodyPost_ret (v := .agg (roomC wd hg (.slice (some ⟨vg, 0, none⟩) ws.length ws.length))) (results_cell_row rfl _ _ _ _ _ _ _ rfl (setRow_heap _ _ _ _ _ _ H1.out) Tryd.underlying33 rfl (by kernel_rfl)) rfl ⟨⟨_, rfl, hfin⟩, below_setRow hb (by omega) _⟩

end Go.Proofs.YtddnfbpgldchcaaDoor
