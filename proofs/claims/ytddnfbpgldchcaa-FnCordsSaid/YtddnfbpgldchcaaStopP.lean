/-
  What tells a cord, and the numbers of its stops.
-/
import Derived.Test.YtddnfbpgldchcaaNearC
import Derived.Test.YtddnfbpgldchcaaCordRun
import Derived.Test.YtddnfbpgldchcaaPlainN
namespace Go.Proofs.Ytddnfbpgldchcaa
open Go Go.RowKit Go.ChangeMaps Go.MapKept

attribute [local go_sem] run_store_f

theorem plc_le {ln st load : Nat} {stop sp : Int} (h0 : 1031798784 ≤ ln) (h1 : ln ≤ 1115684864) (hs : st ≤ 1065353216 ∨ st = 2147483648) (hl : load ≤ 1065353216 ∨ load = 2147483648) (k0 : 0 ≤ stop) (k1 : stop ≤ 100) (s0 : 1 ≤ sp) (s1 : sp ≤ 100) : plcB ln st load stop sp ≤ 1179123712 := by
  obtain ⟨_, a0, a1⟩ := str_facts h0 h1 hs hl
  have b := (count_le k0 k1).1
  have c := count_le (k := sp) (by omega) s1
  have c2 := c.2.resolve_left (by omega)
  have c1 := c.1
  unfold plcB
  generalize strB ln st load = x at *
  generalize floatOfInt .f32 stop = y at *
  generalize floatOfInt .f32 sp = z at *
  have m1 := mul_mono (x := x) (X := 1124073472) (y := y) (Y := 1120403456) (by decide) (by decide) a1 b
  have e1 : fmul 1124073472 1120403456 = 1179123712 := by decide +kernel
  rw [e1] at m1
  have d1 := div_mono (x := fmul x y) (X := 1179123712) (y := z) (Y := 1065353216) (by decide) (by omega) (by decide) m1 c2
  have e2 : fdiv 1179123712 1065353216 = 1179123712 := by decide +kernel
  rw [e2] at d1
  exact d1
/-- A difference of a place and a plain number. -/
theorem off_plain {p wanted : Nat} (hp : p ≤ 1179123712) (hw : (Lit.float .f32 wanted).wf = true) (hb : plainB wanted = true) : floatBits .sub .f32 p wanted = some (fsub p wanted) ∧ isNum (fsub p wanted) := by
  obtain ⟨n, l, u⟩ := betw_get hw (by unfold isNum; omega) (by unfold isNum; omega) hb
  have hv : sv 3380609024 = -(rv 1233125376 : Int) := sv_neg 1233125376
  have hv2 : sv 1233125376 = (rv 1233125376 : Int) := sv_pos (by decide)
  have hp2 : rv p ≤ rv 1233125376 := rv_le (by omega)
  have e : 2 * rv 1233125376 ≤ rv 1241513984 := by decide +kernel
  rw [hv] at l
  rw [hv2] at u
  have hpv : sv p = (rv p : Int) := sv_pos (by omega)
  exact sub_num (.inl (by omega)) n (by rw [hpv]; omega) (by omega) e (by decide)

set_option maxRecDepth 100000 in
set_option maxHeartbeats 1000000 in
theorem bitsOfCord_any (ln st : Nat) (sp : Int) (w : World) :
    Calls Try.prog 35 #[.agg (cordC ln st sp)] w fun e w' => e = .returned (.agg #[.int .u32 (nbits ln : Int), .int .u32 (nbits st : Int), .int .i8 sp]) ∧ Below w.heap.size w w' := by
  unfold cordC
  go_enter Try.func35, Try.ntmps35
  go_wp2
  refine abs_world (fun W => Below w.heap.size w W ∧ w.heap.size + 2 ≤ W.heap.size ∧ W.heap[w.heap.size]? = some (.cells (cordC ln st sp) 27 (0, 0)) ∧ W.heap[w.heap.size + 1]? = some (.cells #[.int .u32 0, .int .u32 0, .int .i8 0] 59 (0, 0))) ⟨by repeat' first | exact Below.refl _ _ | assumption | refine Below.alloc ?_ (by first | omega | (simp; done) | (simp; omega)) _ | refine Below.setCell ?_ (by first | omega | (simp; done) | (simp; omega)) _ | refine Below.drew ?_, by simp, by rw [Below.heap_alloc _ _ _ (by simp)]; exact heap_alloc_new _ _, by have h := heap_alloc_new (w.alloc (.cells (cordC ln st sp) 27)) (.cells #[.int .u32 0, .int .u32 0, .int .i8 0] 59); simpa [cordC] using h⟩ ?_
  rintro W ⟨hb, hs, h0, h1⟩
  obtain ⟨c0, c1, c2⟩ := cord_cells h0
  have H1 := Lib.hid h1
  clear h0 h1
  refine wp_region_still_tail 9 (by kernel_rfl) (by kernel_rfl) ?_
  simp only [List.take_succ_cons, List.take_zero, List.drop_succ_cons, List.drop_zero]
  iterate 2 still_step
  still_call (nb_still _ _)
  iterate 2 still_step
  still_call (nb_still _ _)
  iterate 3 still_step
  refine wpStill_nil ?_
  have H2 : W.drew.heap[w.heap.size + 1]? = some (.cells #[.int .u32 0, .int .u32 0, .int .i8 0] 59 (0, 0)) := H1.out
  have hb2 : Below w.heap.size w W.drew := hb.drew
  clear H1 hb c0 c1 c2
  change wpList _ _ _ _ _ W.drew
  generalize W.drew = W2 at H2 hb2 ⊢
  refine wpList_store_part rfl 59 _ _ rfl (w.heap.size + 1) 0 #[.int .u32 (nbits ln : Int), .int .u32 (nbits st : Int), .int .i8 sp] rfl rfl 59 _ H2 (by kernel_rfl) (Nat.le_refl _) (by intro v hv; simp only [List.mem_toArray, List.mem_cons, List.not_mem_nil, or_false] at hv; rcases hv with rfl | rfl | rfl <;> rfl) ?_
  rw [laid_all2 (#[.int .u32 0, .int .u32 0, .int .i8 0]) #[.int .u32 (nbits ln : Int), .int .u32 (nbits st : Int), .int .i8 sp] rfl]
  go_wp2
  exact bodyPost_ret (v := .agg #[.int .u32 (nbits ln : Int), .int .u32 (nbits st : Int), .int .i8 sp]) (results_cell_row rfl _ _ _ _ _ _ _ rfl (setRow_heap _ _ _ _ _ _ H2) Try.underlying59 rfl (by kernel_rfl)) rfl ⟨rfl, below_setRow hb2 (by omega) _⟩

theorem nbits_lt {x : Nat} (h : (Lit.float .f32 x).wf = true) : nbits x < 4294967296 := by
  have hx : x < 4294967296 := by simpa [Lit.wf] using h
  unfold nbits
  split <;> omega

end Go.Proofs.Ytddnfbpgldchcaa
