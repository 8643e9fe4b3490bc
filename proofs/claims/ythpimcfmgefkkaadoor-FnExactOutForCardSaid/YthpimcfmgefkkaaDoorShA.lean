/-
  An awning in the way of a sun, as a value.
-/
import Derived.Test.YthpimcfmgefkkaaDoorAwA
import Derived.Test.YthpimcfmgefkkaaDoorSun
import Derived.Laws.Tables
import Derived.Test.YthpimcfmgefkkaaDoorBox
import Derived.Test.YthpimcfmgefkkaaDoorTake
import Derived.Great.BuildSlice
namespace Go.Proofs.YthpimcfmgefkkaaDoor
open Go.ChangeShapes Go.WideShapes Go.ChangeAt Go.RowKit Go.Deep Go.Joins

/-- A sun and a facing, and an awning besides, as cells. -/
def fsC (hs ts : List Int) (fc : Int) : Array Value := sunC hs ts ++ #[.int .i64 fc]

def shC (hs ts : List Int) (fc : Int) (o dr gp tl : Nat) : Array Value := fsC hs ts fc ++ awC o dr gp tl

theorem fsC_size (hs ts : List Int) (fc : Int) (h : hs.length = 24) (t : ts.length = 24) : (fsC hs ts fc).size = 49 := by simp [fsC, sunC_size _ _ h t]

theorem shC_size (hs ts : List Int) (fc : Int) (o dr gp tl : Nat) (h : hs.length = 24) (t : ts.length = 24) : (shC hs ts fc o dr gp tl).size = 53 := by simp [shC, fsC_size _ _ fc h t, awC]

theorem fs_fits (hs ts : List Int) (fc : Int) (h : hs.length = 24) (t : ts.length = 24) : 0 + 49 ≤ (fsC hs ts fc).size := by rw [fsC_size _ _ _ h t]; decide

theorem fs_fits48 (hs ts : List Int) (fc : Int) (h : hs.length = 24) (t : ts.length = 24) : 0 + 48 ≤ (fsC hs ts fc).size := by rw [fsC_size _ _ _ h t]; decide

theorem sh_fits (hs ts : List Int) (fc : Int) (o dr gp tl : Nat) (h : hs.length = 24) (t : ts.length = 24) : 0 + 53 ≤ (shC hs ts fc o dr gp tl).size := by rw [shC_size _ _ _ _ _ _ _ h t]; decide

theorem sh_fits49 (hs ts : List Int) (fc : Int) (o dr gp tl : Nat) (h : hs.length = 24) (t : ts.length = 24) : 0 + 49 ≤ (shC hs ts fc o dr gp tl).size := by rw [shC_size _ _ _ _ _ _ _ h t]; decide

theorem extract_left (a b : Array Value) (n : Nat) (h : a.size = n) : (a ++ b).extract 0 (0 + n) = a := by
  subst h; simp

theorem fs_all (hs ts : List Int) (fc : Int) (h : hs.length = 24) (t : ts.length = 24) : (fsC hs ts fc).extract 0 (0 + 49) = fsC hs ts fc := by
  rw [Nat.zero_add, ← fsC_size hs ts fc h t, Array.extract_size]

theorem fs_sun (hs ts : List Int) (fc : Int) (h : hs.length = 24) (t : ts.length = 24) : (fsC hs ts fc).extract 0 (0 + 48) = sunC hs ts := extract_left _ _ _ (sunC_size _ _ h t)

theorem sh_all (hs ts : List Int) (fc : Int) (o dr gp tl : Nat) (h : hs.length = 24) (t : ts.length = 24) : (shC hs ts fc o dr gp tl).extract 0 (0 + 53) = shC hs ts fc o dr gp tl := by
  rw [Nat.zero_add, ← shC_size hs ts fc o dr gp tl h t, Array.extract_size]

theorem sh_fs (hs ts : List Int) (fc : Int) (o dr gp tl : Nat) (h : hs.length = 24) (t : ts.length = 24) : (shC hs ts fc o dr gp tl).extract 0 (0 + 49) = fsC hs ts fc := extract_left _ _ _ (fsC_size _ _ _ h t)

theorem sunC_one (hs ts : List Int) : ∀ v ∈ sunC hs ts, v.oneCell' = true := i16s_one _

theorem fs_one (hs ts : List Int) (fc : Int) : ∀ v ∈ fsC hs ts fc, v.oneCell' = true := by
  intro v hv
  rcases Array.mem_append.1 hv with h | h
  · exact sunC_one _ _ v h
  · simp only [List.mem_toArray, List.mem_cons, List.not_mem_nil, or_false] at h
    subst h; rfl

theorem sh_one (hs ts : List Int) (fc : Int) (o dr gp tl : Nat) : ∀ v ∈ shC hs ts fc o dr gp tl, v.oneCell' = true := by
  intro v hv
  rcases Array.mem_append.1 hv with h | h
  · exact fs_one _ _ _ v h
  · exact aw_one _ _ _ _ v h

theorem fs_48 (hs ts : List Int) (fc : Int) (h : hs.length = 24) (t : ts.length = 24) : (fsC hs ts fc)[48]? = some (.int .i64 fc) := by
  have e : (sunC hs ts).size = 48 := sunC_size _ _ h t
  unfold fsC
  rw [Array.getElem?_append_right (by omega), e]; rfl

theorem fs_cell {hs ts : List Int} {fc : Int} {W : World} {b : Nat} {T : TypeId} {fr : Nat × Nat} (h : hs.length = 24) (t : ts.length = 24) (hg : W.heap[b]? = some (.cells (fsC hs ts fc) T fr)) : W.cell? ⟨b, 48, none⟩ = some (.int .i64 fc) := by
  rw [cell_of_row W _ _ _ _ _ hg, fs_48 _ _ _ h t]

theorem sh_ge (hs ts : List Int) (fc : Int) (o dr gp tl : Nat) (h : hs.length = 24) (t : ts.length = 24) (k : Nat) : (shC hs ts fc o dr gp tl)[49 + k]? = (awC o dr gp tl)[k]? := by
  have e : (fsC hs ts fc).size = 49 := fsC_size _ _ _ h t
  unfold shC
  rw [Array.getElem?_append_right (by omega), e, Nat.add_sub_cancel_left]

theorem sh_cells {hs ts : List Int} {fc : Int} {o dr gp tl : Nat} {W : World} {b : Nat} {T : TypeId} {fr : Nat × Nat} (h : hs.length = 24) (t : ts.length = 24) (hg : W.heap[b]? = some (.cells (shC hs ts fc o dr gp tl) T fr)) :
    W.cell? ⟨b, 49, none⟩ = some (.float .f32 o) ∧ W.cell? ⟨b, 50, none⟩ = some (.float .f32 dr) ∧ W.cell? ⟨b, 51, none⟩ = some (.float .f32 gp) ∧ W.cell? ⟨b, 52, none⟩ = some (.float .f32 tl) :=
  ⟨by rw [cell_of_row W _ _ _ _ _ hg]; exact sh_ge _ _ _ _ _ _ _ h t 0, by rw [cell_of_row W _ _ _ _ _ hg]; exact sh_ge _ _ _ _ _ _ _ h t 1, by rw [cell_of_row W _ _ _ _ _ hg]; exact sh_ge _ _ _ _ _ _ _ h t 2, by rw [cell_of_row W _ _ _ _ _ hg]; exact sh_ge _ _ _ _ _ _ _ h t 3⟩

set_option maxRecDepth 100000 in
theorem info_fs : (Tryd.prog.info? 47).map (·.size) = some 49 := by kernel_rfl

set_option maxRecDepth 100000 in
theorem info_sh : (Tryd.prog.info? 49).map (·.size) = some 53 := by kernel_rfl

theorem len24 {xs : List Int} (h : xs.length = 24) : ∃ a0 a1 a2 a3 a4 a5 a6 a7 a8 a9 b0 b1 b2 b3 b4 b5 b6 b7 b8 b9 c0 c1 c2 c3 : Int, xs = [a0, a1, a2, a3, a4, a5, a6, a7, a8, a9, b0, b1, b2, b3, b4, b5, b6, b7, b8, b9, c0, c1, c2, c3] := by
  match xs, h with
  | [a0, a1, a2, a3, a4, a5, a6, a7, a8, a9, b0, b1, b2, b3, b4, b5, b6, b7, b8, b9, c0, c1, c2, c3], _ => exact ⟨_, _, _, _, _, _, _, _, _, _, _, _, _, _, _, _, _, _, _, _, _, _, _, _, rfl⟩

set_option maxRecDepth 100000 in
theorem built_fs (hs ts : List Int) (fc : Int) (h : hs.length = 24) (t : ts.length = 24) : Tryd.prog.built 47 [(0, .agg (sunC hs ts)), (1, .int .i64 fc)] = some (fsC hs ts fc) := by
  obtain ⟨a0, a1, a2, a3, a4, a5, a6, a7, a8, a9, b0, b1, b2, b3, b4, b5, b6, b7, b8, b9, c0, c1, c2, c3, rfl⟩ := len24 h
  obtain ⟨d0, d1, d2, d3, d4, d5, d6, d7, d8, d9, e0, e1, e2, e3, e4, e5, e6, e7, e8, e9, f0, f1, f2, f3, rfl⟩ := len24 t
  kernel_rfl

set_option maxRecDepth 100000 in
theorem built_sh (hs ts : List Int) (fc : Int) (o dr gp tl : Nat) (h : hs.length = 24) (t : ts.length = 24) : Tryd.prog.built 49 [(0, .agg (fsC hs ts fc)), (1, .agg (awC o dr gp tl))] = some (shC hs ts fc o dr gp tl) := by
  obtain ⟨a0, a1, a2, a3, a4, a5, a6, a7, a8, a9, b0, b1, b2, b3, b4, b5, b6, b7, b8, b9, c0, c1, c2, c3, rfl⟩ := len24 h
  obtain ⟨d0, d1, d2, d3, d4, d5, d6, d7, d8, d9, e0, e1, e2, e3, e4, e5, e6, e7, e8, e9, f0, f1, f2, f3, rfl⟩ := len24 t
  kernel_rfl

theorem wpList_buildL {P : Program} {ops : Array Oper} {rest : List Oper} {o : Oper} {a : Act} {w : World} {Q : Exit → Act → World → Prop} (hg : o.guard = none) (t : TypeId) (parts : Array (Nat × Operand)) (ho : o.op = .build t parts)
    (d : Option Tmp) (hd : o.dst = d) (l : List (Nat × Value)) (hp : parts.toList.map (fun x => (x.1, a.eval x.2)) = l) (cells : Array Value) (hf : P.built t l = some cells)
    (h : wpList P ops Q rest (a.put d (.agg cells)) w) : wpList P ops Q (o :: rest) a w := by
  refine wpList_buildTo hg t parts ho d hd cells ?_ h
  rw [Array.toList_map, ← hf, ← hp]

set_option maxRecDepth 100000 in
set_option maxHeartbeats 1000000 in
theorem shadeOf_any (o dr gp tl : Nat) (hs ts : List Int) (hh : hs.length = 24) (ht : ts.length = 24) (fc : Int) (w : World) :
    Calls Tryd.prog 17 #[.agg (awC o dr gp tl), .agg (sunC hs ts), .int .i64 fc] w fun e w' => e = .returned (.agg (shC hs ts fc o dr gp tl)) ∧ Below w.heap.size w w' := by
  have Hh := Lib.hid hh
  have Ht := Lib.hid ht
  clear hh ht
  go_enter Tryd.func17, Tryd.ntmps17
  go_upto_region 1 with (fail)
  refine abs_world (fun W => W.heap[w.heap.size]? = some (.cells (awC o dr gp tl) 31 (0, 0)) ∧ W.heap[w.heap.size + 1]? = some (.cells (sunC hs ts) 33 (0, 0)) ∧ W.heap[w.heap.size + 1 + 1]? = some (.cells (shC zer zer 0 0 0 0 0) 49 (0, 0)) ∧ Below w.heap.size w W) ⟨(box3 w _ _ _).1, (box3 w _ _ _).2.1, (box3 w _ _ _).2.2.1.trans rfl, (box3 w _ _ _).2.2.2⟩ ?_
  rintro W ⟨h0, h1, h2, hb⟩
  generalize hg2 : w.heap.size + 1 + 1 = g2 at *
  have hle : w.heap.size ≤ g2 := by omega
  clear hg2
  generalize w.heap.size + 1 = g1 at *
  have H0 := Lib.hid h0
  have H1 := Lib.hid h1
  have H2 := Lib.hid h2
  have HZ := Lib.hid (shC_size zer zer 0 0 0 0 0 zer_length zer_length)
  have HS := Lib.hid (shC_size hs ts fc o dr gp tl Hh.out Ht.out)
  clear h0 h1 h2
  go_wp2_with (first | (refine wpList_load_part rfl 33 _ rfl g1 0 48 rfl 33 (sunC hs ts) (0, 0) _ H1.out Tryd.underlying33 rfl info_sun (sun_fits _ _ Hh.out Ht.out) _ (sun_all _ _ Hh.out Ht.out) ?_) | (refine wpList_load_part rfl 31 _ rfl w.heap.size 0 4 rfl 31 (awC o dr gp tl) (0, 0) _ H0.out Tryd.underlying31 rfl info_aw (aw_fits _ _ _ _) _ (aw_all _ _ _ _) ?_) | (refine wpList_buildL rfl 47 _ rfl _ rfl [(0, .agg (sunC hs ts)), (1, .int .i64 fc)] rfl (fsC hs ts fc) (built_fs hs ts fc Hh.out Ht.out) ?_) | (refine wpList_buildL rfl 49 _ rfl _ rfl [(0, .agg (fsC hs ts fc)), (1, .agg (awC o dr gp tl))] rfl (shC hs ts fc o dr gp tl) (built_sh hs ts fc o dr gp tl Hh.out Ht.out) ?_) | (refine wpList_store_part rfl 49 _ _ rfl g2 0 (shC hs ts fc o dr gp tl) rfl rfl 49 (shC zer zer 0 0 0 0 0) H2.out (by rw [HS.out]; exact info_sh) (by rw [HS.out, HZ.out]; decide) (sh_one _ _ _ _ _ _ _) ?_; rw [laid_all _ _ (by rw [HS.out, HZ.out])]))
  exact bodyPost_ret (v := .agg (shC hs ts fc o dr gp tl)) (results_cell_row rfl _ _ _ _ _ _ _ rfl (setRow_heap _ _ _ _ _ _ H2.out) Tryd.underlying49 rfl (by rw [HS.out]; exact info_sh)) rfl ⟨rfl, below_setRow hb hle _⟩

end Go.Proofs.YthpimcfmgefkkaaDoor
