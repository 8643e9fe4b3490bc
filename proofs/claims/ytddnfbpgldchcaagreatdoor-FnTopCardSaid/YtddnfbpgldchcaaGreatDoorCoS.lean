/-
  A tick, the model's.

-/
import Derived.Test.YtddnfbpgldchcaaGreatDoorTkC
import Derived.Test.YtddnfbpgldchcaaGreatDoorCoT
import Derived.Laws.ResultCell
import Derived.Deep.QuietTactic
import Derived.BigQuiet
import Derived.IntWalk
import Derived.Deep.CutBlock

namespace Go.Proofs.YtddnfbpgldchcaaGreatDoor

open Go.ChangeShapes Go.WideShapes Go.ChangeAt Go.RowKit Go.Deep Go.Joins

attribute [local go_sem] run_store_f

theorem results_cell_tmp2 {fn : Func} {p u v : Tmp} {ty : TypeId} (h : fn.results = #[.cell p ty, .tmp u, .tmp v]) (tmps : Array Value) (P : Program) (w : World) :
    (results fn tmps).run P w =
      ((asAddr (tmps.getD p undef)).run P w).andThen fun a w₁ => ((loadVar ty a).run P w₁).andThen fun x w₂ => .ok (.tuple #[x, tmps.getD u undef, tmps.getD v undef]) w₂ := by
  simp only [results, h]
  simp [Sem.run_bind, Result.andThen]

theorem results_sa {fn : Func} {p u : Tmp} (h : fn.results = #[.cell p 43, .tmp u]) (tmps : Array Value) (w : World) (g : Nat) (x y z : Int) (hp : tmps.getD p undef = .pointer (some ⟨g, 0, none⟩)) (hg : w.heap[g]? = some (.cells (saC x y z) 43 (0, 0))) :
    (results fn tmps).run Tryz.prog w = .ok (.tuple #[.agg (saC x y z), tmps.getD u undef]) w := by
  rw [results_cell_tmp h, hp]
  have e := run_loadVar_row w g 43 43 (saC x y z) (0, 0) _ hg Tryz.underlying43 rfl info_sa
  simp only [asAddr, Sem.run_pure, Result.andThen_ok, e]

theorem results_sa2 {fn : Func} {p u v : Tmp} (h : fn.results = #[.cell p 43, .tmp u, .tmp v]) (tmps : Array Value) (w : World) (g : Nat) (x y z : Int) (hp : tmps.getD p undef = .pointer (some ⟨g, 0, none⟩)) (hg : w.heap[g]? = some (.cells (saC x y z) 43 (0, 0))) :
    (results fn tmps).run Tryz.prog w = .ok (.tuple #[.agg (saC x y z), tmps.getD u undef, tmps.getD v undef]) w := by
  rw [results_cell_tmp2 h, hp]
  have e := run_loadVar_row w g 43 43 (saC x y z) (0, 0) _ hg Tryz.underlying43 rfl info_sa
  simp only [asAddr, Sem.run_pure, Result.andThen_ok, e]

theorem World.cell?_setCell_ne5 {W : World} {g o b i : Nat} {v : Value} (h : g ≠ b) : (W.setCell ⟨b, i, none⟩ v).cell? ⟨g, o, none⟩ = W.cell? ⟨g, o, none⟩ := by
  have e := heap_setCell_other W ⟨b, i, none⟩ g v h
  simp only [World.cell?, e]

theorem cell_setRow5 {W : World} {g o b : Nat} {cs : Array Value} (h : g ≠ b) : (W.setRow b cs).cell? ⟨g, o, none⟩ = W.cell? ⟨g, o, none⟩ := by
  have e := setRow_other W b g cs h
  simp only [World.cell?, e]

/-- The cells of a tick. -/
def TkAt (W : World) (g o : Nat) (lg : Nat) (gu : Nat) (hg : Int) : Prop := W.cell? ⟨g, o, none⟩ = some (.float .f32 lg) ∧ W.cell? ⟨g, o + 1, none⟩ = some (.float .f32 gu) ∧ W.cell? ⟨g, o + 2, none⟩ = some (.int .i8 hg)

theorem tkat_below {W W' : World} {g o : Nat} {lg gu : Nat} {hg : Int} (h : TkAt W g o lg gu hg) (hb : Below W.heap.size W W') : TkAt W' g o lg gu hg := ⟨cell_below hb h.1, cell_below hb h.2.1, cell_below hb h.2.2⟩

theorem tkat_lt {W : World} {g o : Nat} {lg gu : Nat} {hg : Int} (h : TkAt W g o lg gu hg) : g < W.heap.size := World.block_lt_of_cell? W _ h.1

theorem tkat_set {W : World} {g o : Nat} {lg gu : Nat} {hg : Int} (h : TkAt W g o lg gu hg) (b i : Nat) (v : Value) (hne : g ≠ b) : TkAt (W.setCell ⟨b, i, none⟩ v) g o lg gu hg :=
  ⟨by rw [World.cell?_setCell_ne5 hne]; exact h.1, by rw [World.cell?_setCell_ne5 hne]; exact h.2.1, by rw [World.cell?_setCell_ne5 hne]; exact h.2.2⟩

set_option maxRecDepth 100000 in
set_option maxHeartbeats 4000000 in
theorem l05Once_any (lo : Nat) (hi : Nat) (wi : Nat) (st : Int) (de : Int) (ca : Int) (n : Int) (wd gp : Nat) (t : Int) (sh : Nat) (ti : Int) (wt : Int) (sm : Int) (lg : Nat) (gu : Nat) (hg : Int) (ok : BlOk n wd gp t sh) (co : CtOk lo hi wi st de ca) (ko : TkOk lg gu hg) (so : SaOk ti wt sm) (t1 w1 s1 : Int) (l1 : Nat) (ha : aftB lo hi wi st de ca wd gp sh ti wt sm lg gu hg = (t1, w1, s1, l1)) (g1 g2 o2 : Nat) (T1 : TypeId) (f1 : Nat × Nat) (w : World) (h1 : w.heap[g1]? = some (.cells (ctC lo hi wi st de ca) T1 f1)) (h2 : TkAt w g2 o2 lg gu hg) :
    Calls Tryz.prog 63 #[.pointer (some ⟨g1, 0, none⟩), .agg (blindC n wd gp t sh), .agg (saC ti wt sm), .pointer (some ⟨g2, o2, none⟩)] w fun e w' => e = .returned (.tuple #[.agg (saC t1 w1 s1), .float .f32 l1]) ∧ Below w.heap.size w w' := by
  have hg1 := row_lt h1
  have hg2 := tkat_lt h2
  have G0 := ko.h0
  have G1 := ko.h1
  have A0 := co.s0
  have A1 := co.s1
  have B0 := so.t0
  have B1 := so.t1
  have X0 := so.w0
  have X1 := so.w1
  have S0 := so.s0
  have S1 := so.s1
  have D0 := co.d0
  have D1 := co.d1
  have E0 := co.c0
  have E1 := co.c1
  obtain ⟨z0, z1⟩ := sto_rng (gu := gu) (wi := wi) co.c0 co.c1 so.s0 so.s1
  have hin := ins_ok (wd := wd) (gp := gp) (ti := ti) (hg := hg) ko.lg ok.2.2.2.2.2.2.2.2
  have hmul : ∀ T w, (binOp .mul T (.float .f32 lg) (.float .f32 (pasB wd gp ti sh hg))).run Tryz.prog w = .ok (.float .f32 (insB lg wd gp ti sh hg)) w := fun T w => run_float_arith w .mul T .f32 _ _ _ hin.1
  have OK : BlOk n wd gp ti sh := ⟨ok.1, ok.2.1, ok.2.2.1, ok.2.2.2.1, ok.2.2.2.2.1, ok.2.2.2.2.2.1, B0, B1, ok.2.2.2.2.2.2.2.2⟩
  have HP := Lib.hid (fun g W hg' => l02Pass_any n wd gp ti sh OK hg G0 G1 g 32 (0, 0) W hg')
  have HA := Lib.hid ha
  have HS0 : Hid (stoB gu wi ca sm = if gt0 (ordB gu wi) = true then ca else if 0 < sm then sm - 1 else 0) := rfl
  have hwr : IntKind.i64.wrap hg = hg := IntWalk.i64_in _ (by omega)
  clear ha ok OK co ko so hin
  unfold aftB at HA
  generalize stoB gu wi ca sm = s' at *
  generalize insB lg wd gp ti sh hg = li at *
  generalize pasB wd gp ti sh hg = pa at *
  go_enter Tryz.func63, Tryz.ntmps63
  go_upto_region 1 with (fail)
  refine abs_world (fun W => W.heap[w.heap.size]? = some (.cells (blindC n wd gp t sh) 32 (0, 0)) ∧ W.heap[w.heap.size + 1]? = some (.cells (saC ti wt sm) 43 (0, 0)) ∧ W.heap[w.heap.size + 1 + 1]? = some (.cells (saC 0 0 0) 43 (0, 0)) ∧ Below w.heap.size w W) (box3 w (.cells (blindC n wd gp t sh) 32) (.cells (saC ti wt sm) 43) (.cells (saC 0 0 0) 43)) ?_
  rintro W ⟨h0, h1, h2, hb⟩
  have hl1 : w.heap.size < w.heap.size + 1 := by omega
  have hl2 : w.heap.size + 1 < w.heap.size + 1 + 1 := by omega
  generalize w.heap.size + 1 + 1 = b2 at *
  generalize w.heap.size + 1 = b1 at *
  have H0 := Lib.hid h0
  have H1 := Lib.hid h1
  have H2 := Lib.hid h2
  clear h0 h1 h2
  have HR : Hid (W.heap[w.heap.size]? = some (.cells (blindC n wd gp t sh) 32 (0, 0)) ∧ W.heap[b1]? = some (.cells (saC ti wt sm) 43 (0, 0)) ∧ W.heap[b2]? = some (.cells (saC 0 0 0) 43 (0, 0)) ∧ W.heap[g1]? = some (.cells (ctC lo hi wi st de ca) T1 f1) ∧ TkAt W g2 o2 lg gu hg ∧ Below w.heap.size w W) := ⟨H0.out, H1.out, H2.out, below_row hb h1, tkat_below h2 hb, hb⟩
  clear H0 H1 H2 hb h1 h2
  obtain ⟨c0, c1, c2, c3, c4, c5⟩ := ct_cells HR.out.2.2.2.1
  obtain ⟨k0, k1, k2⟩ := HR.out.2.2.2.2.1
  obtain ⟨s0, s1, s2⟩ := sa_cells HR.out.2.1
  go_quiet (fail)
  go_upto_if 20 with (fail)
  clear c0 c1 c2 c3 c4 c5 k0 k1 k2 s0 s1 s2
  have HR1 : Hid ((W.drewN nq).heap[w.heap.size]? = some (.cells (blindC n wd gp t sh) 32 (0, 0)) ∧ (W.drewN nq).heap[b1]? = some (.cells (saC ti wt sm) 43 (0, 0)) ∧ (W.drewN nq).heap[b2]? = some (.cells (saC 0 0 0) 43 (0, 0)) ∧ (W.drewN nq).heap[g1]? = some (.cells (ctC lo hi wi st de ca) T1 f1) ∧ TkAt (W.drewN nq) g2 o2 lg gu hg ∧ Below w.heap.size w (W.drewN nq)) := ⟨HR.out.1, HR.out.2.1, HR.out.2.2.1, HR.out.2.2.2.1, HR.out.2.2.2.2.1, below_drewN5 HR.out.2.2.2.2.2 _⟩
  clear HR
  have hbG : (FloatKind.f32.format.order gu wi == some Ordering.gt) = gt0 (ordB gu wi) := rfl
  rw [hbG]
  clear hbG
  generalize gt0 (ordB gu wi) = bG at *
  refine abs_world (fun V => V.heap[w.heap.size]? = some (.cells (blindC n wd gp t sh) 32 (0, 0)) ∧ V.heap[b1]? = some (.cells (saC ti wt sm) 43 (0, 0)) ∧ V.heap[b2]? = some (.cells (saC 0 0 0) 43 (0, 0)) ∧ V.heap[g1]? = some (.cells (ctC lo hi wi st de ca) T1 f1) ∧ TkAt V g2 o2 lg gu hg ∧ Below w.heap.size w V) HR1.out ?_
  clear HR1
  rintro V hr
  have HR := Lib.hid hr
  clear hr
  go_cut [] (fun wx => wx.heap[w.heap.size]? = some (.cells (blindC n wd gp t sh) 32 (0, 0)) ∧ wx.heap[b1]? = some (.cells (saC ti wt s') 43 (0, 0)) ∧ wx.heap[b2]? = some (.cells (saC 0 0 0) 43 (0, 0)) ∧ wx.heap[g1]? = some (.cells (ctC lo hi wi st de ca) T1 f1) ∧ TkAt wx g2 o2 lg gu hg ∧ Below w.heap.size w wx)
  case first =>
    clear hmul hwr HP HA
    obtain ⟨c0, c1, c2, c3, c4, c5⟩ := ct_cells HR.out.2.2.2.1
    obtain ⟨s0, s1, s2⟩ := sa_cells HR.out.2.1
    have f2 := frozen_of_row V b1 2 _ _ HR.out.2.1
    have hs' := HS0.out
    clear HS0
    cases bG with
    | true =>
      rw [if_pos rfl] at hs'
      have HS' := Lib.hid hs'
      clear hs'
      go_wp2
      go_meet
      case rel =>
        rw [HS'.out]
        exact ⟨(heap_setCell_other _ _ _ _ (by simp; omega)).trans HR.out.1, (heap_setCell_same _ _ _ _ _ _ HR.out.2.1).trans rfl, (heap_setCell_other _ _ _ _ (by simp; omega)).trans HR.out.2.2.1, (heap_setCell_other _ _ _ _ (by simp; omega)).trans HR.out.2.2.2.1, tkat_set HR.out.2.2.2.2.1 _ _ _ (by omega), HR.out.2.2.2.2.2.setCell (by simp; omega) _⟩
    | false =>
      rw [if_neg (by decide)] at hs'
      by_cases hsm : 0 < sm
      · rw [if_pos hsm] at hs'
        have HS' := Lib.hid hs'
        clear hs'
        go_wp2
        go_meet
        case rel =>
          rw [HS'.out]
          exact ⟨(heap_setCell_other _ _ _ _ (by simp; omega)).trans HR.out.1, (heap_setCell_same _ _ _ _ _ _ HR.out.2.1).trans rfl, (heap_setCell_other _ _ _ _ (by simp; omega)).trans HR.out.2.2.1, (heap_setCell_other _ _ _ _ (by simp; omega)).trans HR.out.2.2.2.1, tkat_set HR.out.2.2.2.2.1 _ _ _ (by omega), HR.out.2.2.2.2.2.setCell (by simp; omega) _⟩
      · rw [if_neg hsm] at hs'
        have HS' := Lib.hid hs'
        clear hs'
        obtain rfl : sm = 0 := by omega
        go_wp2
        go_meet
        case rel =>
          rw [HS'.out]
          exact HR.out
  case rest =>
    clear HS0 HR S0 S1 E0 E1
    have HR := Lib.hid hcut
    clear hcut
    by_cases hs : 0 < s'
    · have HE := HA.out
      clear HA
      rw [if_pos hs] at HE
      simp only [Prod.mk.injEq] at HE
      obtain ⟨rfl, rfl, rfl, rfl⟩ := HE
      obtain ⟨s0, s1, s2⟩ := sa_cells HR.out.2.1
      go_upto_region 6 with (fail)
      clear s0 s1 s2
      refine wp_region_held_drew (S := (fun X => X.heap[b1]? = some (.cells (saC ti wt s') 43 (0, 0)) ∧ X.cell? ⟨g2, o2, none⟩ = some (.float .f32 lg) ∧ (∃ old : Array Value, X.heap[b2]? = some (.cells old 43 (0, 0)) ∧ old.size = 3) ∧ Below w.heap.size w X)) (by kernel_rfl) ⟨HR.out.2.1, HR.out.2.2.2.2.1.1, ⟨_, HR.out.2.2.1, rfl⟩, HR.out.2.2.2.2.2.drew⟩ (fun hHeld => ?_)
      refine take_op (i := 0) (d := 36) (v := .agg (saC ti wt s')) rfl rfl (by kernel_rfl) (by kernel_rfl) (by kernel_rfl) (fun _ _ _ h => h) (yields_row (by rfl) 43 (.tmp 6) (by rfl) b1 0 3 (by rfl) 43 (saC ti wt s') (0, 0) _ (fun _ h => h.1) Tryz.underlying43 rfl info_sa (sa_fits _ _ _) (saC ti wt s') (sa_all _ _ _)) hHeld ?_
      simp only [List.setIfInBounds_toArray, List.set_cons_zero, List.set_cons_succ]
      refine take_op (i := 1) (d := 37) (v := ?_) rfl rfl (by kernel_rfl) (by kernel_rfl) (by kernel_rfl) (fun _ _ _ h => h) (Or.inl ⟨by rfl, ?hy1u7⟩) hHeld ?rest1u7
      case hy1u7 =>
        intro w' hS'
        go_simp
        try with_reducible rfl
      simp only [List.setIfInBounds_toArray, List.set_cons_zero, List.set_cons_succ]
      refine take_op (i := 2) (d := 38) (v := ?_) rfl rfl (by kernel_rfl) (by kernel_rfl) (by kernel_rfl) (fun _ _ _ h => h) (Or.inl ⟨by rfl, ?hy2u8⟩) hHeld ?rest2u8
      case hy2u8 =>
        intro w' hS'
        go_simp
        try with_reducible rfl
      simp only [List.setIfInBounds_toArray, List.set_cons_zero, List.set_cons_succ]
      refine take_op (i := 3) (d := 39) (v := ?_) rfl rfl (by kernel_rfl) (by kernel_rfl) (by kernel_rfl) (fun _ _ _ h => h) (Or.inl ⟨by rfl, ?hy3u9⟩) hHeld ?rest3u9
      case hy3u9 =>
        intro w' hS'
        go_simp
        try with_reducible rfl
      simp only [List.setIfInBounds_toArray, List.set_cons_zero, List.set_cons_succ]
      refine take_op (i := 4) (d := 40) (v := ?_) rfl rfl (by kernel_rfl) (by kernel_rfl) (by kernel_rfl) (fun _ _ _ h => h) (Or.inl ⟨by rfl, ?hy4u10⟩) hHeld ?rest4u10
      case hy4u10 =>
        intro w' hS'
        have k0 := hS'.2.1
        go_simp
        try with_reducible rfl
      simp only [List.setIfInBounds_toArray, List.set_cons_zero, List.set_cons_succ]
      obtain ⟨old, hold, hos⟩ := hHeld.2.2.1
      have hst := run_store_row5 (P := Tryz.prog) _ b2 43 (saC ti wt s') _ hold (hos.trans rfl) (sa_one _ _ _)
      refine wpAnyH_ready (rs := [5]) (by kernel_rfl) (by simp) ?_
      refine AllReadyH.cons rfl (fun K hK => ?_) AllReadyH.nil
      go_simp
      refine hK.out _ _ (⟨(setRow_other _ _ _ _ (by omega)).trans hHeld.1, by rw [cell_setRow5 (by omega)]; exact hHeld.2.1, ⟨_, setRow_heap _ _ _ _ _ _ hold, rfl⟩, below_setRow hHeld.2.2.2 (by omega) _⟩) (fun hHeld2 => ?_)
      clear hK K hst
      have hd := setRow_heap _ _ _ (saC ti wt s') _ _ hold
      clear hHeld
      have hHeld := hHeld2
      clear hHeld2
      refine take_op (i := 6) (d := 9) (v := ?_) rfl rfl (by kernel_rfl) (by kernel_rfl) (by kernel_rfl) (fun _ _ _ h => h) (Or.inl ⟨by rfl, ?hy6u11⟩) hHeld ?rest6u11
      case hy6u11 =>
        intro w' hS'
        go_simp
        try with_reducible rfl
      refine wpAnyH_done (by kernel_rfl) ?_ _
      go_wp2
      exact bodyPost_ret (results_sa rfl _ _ b2 _ _ _ rfl hd) rfl ⟨rfl, hHeld.2.2.2⟩
    · have HE := HA.out
      clear HA
      rw [if_neg hs] at HE
      obtain ⟨s0, s1, s2⟩ := sa_cells HR.out.2.1
      obtain ⟨bl0, bl1, bl2, bl3, bl4⟩ := blind_cells HR.out.1
      have f3 := frozen_of_row wc w.heap.size 3 _ _ HR.out.1
      go_upto_region 8 with (fail)
      clear s0 s1 s2 bl0 bl1 bl2 bl3 bl4 f3
      refine abs_world (fun V2 => V2.heap[w.heap.size]? = some (.cells (blindC n wd gp ti sh) 32 (0, 0)) ∧ V2.heap[b1]? = some (.cells (saC ti wt s') 43 (0, 0)) ∧ V2.heap[b2]? = some (.cells (saC 0 0 0) 43 (0, 0)) ∧ V2.heap[g1]? = some (.cells (ctC lo hi wi st de ca) T1 f1) ∧ TkAt V2 g2 o2 lg gu hg ∧ Below w.heap.size w V2) ⟨(heap_setCell_same _ _ _ _ _ _ HR.out.1).trans rfl, (heap_setCell_other _ _ _ _ (by simp; omega)).trans HR.out.2.1, (heap_setCell_other _ _ _ _ (by simp; omega)).trans HR.out.2.2.1, (heap_setCell_other _ _ _ _ (by simp; omega)).trans HR.out.2.2.2.1, tkat_set HR.out.2.2.2.2.1 _ _ _ (by omega), HR.out.2.2.2.2.2.setCell (Nat.le_refl _) _⟩ ?_
      clear HR
      rintro V2 hr
      have HR := Lib.hid hr
      clear hr
      obtain ⟨k0, _, k2⟩ := HR.out.2.2.2.2.1
      have HB0 := Lib.hid HR.out.1
      have hbq : Below V2.heap.size V2 V2 := Below.refl _ _
      refine wp_region_held_drew (S := (fun V => Below V2.heap.size V2 V)) (by kernel_rfl) ((Below.refl _ _).drew) (fun hHeld => ?_)
      refine take_op (i := 0) (d := 44) (v := ?_) rfl rfl (by kernel_rfl) (by kernel_rfl) (by kernel_rfl) (fun _ _ _ h => h) (Or.inl ⟨by rfl, ?hy0u12⟩) hHeld ?rest0u12
      case hy0u12 =>
        intro w' hS'
        go_simp
        try with_reducible rfl
      simp only [List.setIfInBounds_toArray, List.set_cons_zero, List.set_cons_succ]
      refine take_op (i := 1) (d := 45) (v := ?_) rfl rfl (by kernel_rfl) (by kernel_rfl) (by kernel_rfl) (fun _ _ _ h => h) (Or.inl ⟨by rfl, ?hy1u13⟩) hHeld ?rest1u13
      case hy1u13 =>
        intro w' hS'
        go_simp
        try with_reducible rfl
      simp only [List.setIfInBounds_toArray, List.set_cons_zero, List.set_cons_succ]
      refine take_op (i := 2) (d := 46) (v := ?_) rfl rfl (by kernel_rfl) (by kernel_rfl) (by kernel_rfl) (fun _ _ _ h => h) (Or.inl ⟨by rfl, ?hy2u14⟩) hHeld ?rest2u14
      case hy2u14 =>
        intro w' hS'
        go_simp
        try with_reducible rfl
      simp only [List.setIfInBounds_toArray, List.set_cons_zero, List.set_cons_succ]
      refine take_op (i := 3) (d := 47) (v := ?_) rfl rfl (by kernel_rfl) (by kernel_rfl) (by kernel_rfl) (fun _ _ _ h => h) (Or.inl ⟨by rfl, ?hy3u15⟩) hHeld ?rest3u15
      case hy3u15 =>
        intro w' hS'
        have k0 := cell_belowB hS' k0
        have k2 := cell_belowB hS' k2
        go_simp
        try with_reducible rfl
      simp only [List.setIfInBounds_toArray, List.set_cons_zero, List.set_cons_succ]
      refine take_op (i := 4) (d := 48) (v := ?_) rfl rfl (by kernel_rfl) (by kernel_rfl) (by kernel_rfl) (fun _ _ _ h => h) (Or.inl ⟨by rfl, ?hy4u16⟩) hHeld ?rest4u16
      case hy4u16 =>
        intro w' hS'
        go_simp
        try with_reducible rfl
      simp only [List.setIfInBounds_toArray, List.set_cons_zero, List.set_cons_succ]
      refine take_op (i := 5) (d := 49) (v := ?_) rfl rfl (by kernel_rfl) (by kernel_rfl) (by kernel_rfl) (fun _ _ _ h => h) (Or.inl ⟨by rfl, ?hy5u17⟩) hHeld ?rest5u17
      case hy5u17 =>
        intro w' hS'
        go_simp
        try with_reducible rfl
      simp only [List.setIfInBounds_toArray, List.set_cons_zero, List.set_cons_succ]
      refine take_op (i := 6) (d := 50) (v := ?_) rfl rfl (by kernel_rfl) (by kernel_rfl) (by kernel_rfl) (fun _ _ _ h => h) (Or.inl ⟨by rfl, ?hy6u18⟩) hHeld ?rest6u18
      case hy6u18 =>
        intro w' hS'
        go_simp
        try with_reducible rfl
      simp only [List.setIfInBounds_toArray, List.set_cons_zero, List.set_cons_succ]
      refine take_op (i := 7) (d := 51) (v := ?_) rfl rfl (by kernel_rfl) (by kernel_rfl) (by kernel_rfl) (fun _ _ _ h => h) (Or.inl ⟨by rfl, ?hy7u19⟩) hHeld ?rest7u19
      case hy7u19 =>
        intro w' hS'
        have k0 := cell_belowB hS' k0
        have k2 := cell_belowB hS' k2
        go_simp
        try with_reducible rfl
      simp only [List.setIfInBounds_toArray, List.set_cons_zero, List.set_cons_succ]
      refine take_op (i := 8) (d := 52) (v := ?_) rfl rfl (by kernel_rfl) (by kernel_rfl) (by kernel_rfl) (fun _ _ _ h => h) (Or.inl ⟨by rfl, ?hy8u20⟩) hHeld ?rest8u20
      case hy8u20 =>
        intro w' hS'
        go_simp
        try with_reducible rfl
      simp only [List.setIfInBounds_toArray, List.set_cons_zero, List.set_cons_succ]
      refine wpAnyH_ready (rs := [9]) (by kernel_rfl) (by simp) ?_
      refine AllReadyH.cons rfl (fun K hK => ?_) AllReadyH.nil
      go_simp
      refine (HP.out w.heap.size _ (below_row hHeld HB0.out)).mono ?_
      rintro e W1 ⟨rfl, hb1⟩
      refine hK.out _ _ (hHeld.trans (hb1.mono hHeld.size)) (fun hHeld2 => ?_)
      clear hK K
      replace hHeld := hHeld2
      clear hHeld2
      clear hb1
      refine take_op (i := 10) (d := 54) (v := ?_) rfl rfl (by kernel_rfl) (by kernel_rfl) (by kernel_rfl) (fun _ _ _ h => h) (Or.inl ⟨by rfl, ?hy10u21⟩) hHeld ?rest10u21
      case hy10u21 =>
        intro w' hS'
        go_simp
        try with_reducible rfl
      simp only [List.setIfInBounds_toArray, List.set_cons_zero, List.set_cons_succ]
      refine take_op (i := 11) (d := 10) (v := ?_) rfl rfl (by kernel_rfl) (by kernel_rfl) (by kernel_rfl) (fun _ _ _ h => h) (Or.inl ⟨by rfl, ?hy11u22⟩) hHeld ?rest11u22
      case hy11u22 =>
        intro w' hS'
        go_simp
        try with_reducible rfl
      simp only [List.setIfInBounds_toArray, List.set_cons_zero, List.set_cons_succ]
      refine wpAnyH_done (by kernel_rfl) ?_ _
      replace HB0 := Lib.hid (below_row hHeld HB0.out)
      replace k0 := cell_belowB hHeld k0
      replace k2 := cell_belowB hHeld k2
      replace hbq := hbq.trans (hHeld.mono hbq.size)
      clear hHeld
      have HR2 : Hid (W1.heap[w.heap.size]? = some (.cells (blindC n wd gp ti sh) 32 (0, 0)) ∧ W1.heap[b1]? = some (.cells (saC ti wt s') 43 (0, 0)) ∧ W1.heap[b2]? = some (.cells (saC 0 0 0) 43 (0, 0)) ∧ W1.heap[g1]? = some (.cells (ctC lo hi wi st de ca) T1 f1) ∧ TkAt W1 g2 o2 lg gu hg ∧ Below w.heap.size w W1) := ⟨HB0.out, below_row hbq HR.out.2.1, below_row hbq HR.out.2.2.1, below_row hbq HR.out.2.2.2.1, tkat_below HR.out.2.2.2.2.1 hbq, HR.out.2.2.2.2.2.trans (hbq.mono HR.out.2.2.2.2.2.size)⟩
      clear HR HB0 k0 k2 hbq HP hmul hwr
      obtain ⟨s0, s1, s2⟩ := sa_cells HR2.out.2.1
      by_cases hw : 0 < wt
      · rw [if_pos hw] at HE
        simp only [Prod.mk.injEq] at HE
        obtain ⟨rfl, rfl, rfl, rfl⟩ := HE
        have fw := frozen_of_row W1 b1 1 _ _ HR2.out.2.1
        go_upto_region 11 with (fail)
        clear s0 s1 s2 fw
        refine abs_world (fun V3 => V3.heap[b1]? = some (.cells (saC ti (wt - 1) s') 43 (0, 0)) ∧ V3.heap[b2]? = some (.cells (saC 0 0 0) 43 (0, 0)) ∧ Below w.heap.size w V3) ⟨(heap_setCell_same _ _ _ _ _ _ HR2.out.2.1).trans rfl, (heap_setCell_other _ _ _ _ (by simp; omega)).trans HR2.out.2.2.1, HR2.out.2.2.2.2.2.setCell (by simp; omega) _⟩ ?_
        clear HR2
        rintro V3 ⟨q1, q2, hb⟩
        have L1 := Lib.hid q1
        have L2 := Lib.hid q2
        clear q1 q2
        go_wp2_with (first | (refine wpList_load_part rfl 43 _ rfl b1 0 3 rfl 43 (saC ti (wt - 1) s') (0, 0) _ L1.out Tryz.underlying43 rfl info_sa (sa_fits _ _ _) _ (sa_all _ _ _) ?_) | (refine wpList_store_part rfl 43 _ _ rfl b2 0 (saC ti (wt - 1) s') rfl rfl 43 (saC 0 0 0) L2.out info_sa (Nat.le_refl _) (sa_one _ _ _) ?_; rw [laid_all5 (saC 0 0 0) (saC ti (wt - 1) s') rfl]))
        exact bodyPost_ret (results_sa rfl _ _ b2 _ _ _ rfl (setRow_heap _ _ _ _ _ _ L2.out)) rfl ⟨rfl, below_setRow hb (by omega) _⟩
      · rw [if_neg hw] at HE
        obtain rfl : wt = 0 := by omega
        go_upto_block 0 with (fail)
        clear s0 s1 s2
        go_cut [11] (fun s11 wx => s11 = .int .i64 (steB lo hi st ti li) ∧ wx = W1)
        case first =>
          obtain ⟨c0, c1, c2, c3, c4, c5⟩ := ct_cells HR2.out.2.2.2.1
          clear HE
          cases hB : gt0 (ordB li hi) with
          | true =>
            have he : Hid (steB lo hi st ti li = min (ti + st) 64) := if_pos hB
            unfold gt0 ordB at hB
            by_cases hk : ti + st ≤ 64
            · have he2 : Hid (steB lo hi st ti li = ti + st) := he.out.trans (by omega)
              go_wp2
              go_meet
              case rel => exact ⟨by rw [he2.out], rfl⟩
            · have he2 : Hid (steB lo hi st ti li = 64) := he.out.trans (by omega)
              go_wp2
              go_meet
              case rel => exact ⟨by rw [he2.out], rfl⟩
          | false =>
            have hB' := hB
            unfold gt0 ordB at hB
            cases hD : lt0 (ordB li lo) with
            | true =>
              have he : Hid (steB lo hi st ti li = max (ti - st) (-64)) := by unfold Hid steB; rw [if_neg (by rw [hB']; decide), if_pos hD]
              unfold lt0 ordB at hD
              clear hB'
              by_cases hk : -64 ≤ ti - st
              · have he2 : Hid (steB lo hi st ti li = ti - st) := he.out.trans (by omega)
                go_wp2
                go_meet
                case rel => exact ⟨by rw [he2.out], rfl⟩
              · have he2 : Hid (steB lo hi st ti li = -64) := he.out.trans (by omega)
                go_wp2
                go_meet
                case rel => exact ⟨by rw [he2.out], rfl⟩
            | false =>
              have he2 : Hid (steB lo hi st ti li = ti) := by unfold Hid steB; rw [if_neg (by rw [hB']; decide), if_neg (by rw [hD]; decide)]
              unfold lt0 ordB at hD
              clear hB'
              go_wp2
              go_meet
              case rel => exact ⟨by rw [he2.out], rfl⟩
        case rest =>
          obtain ⟨rfl, rfl⟩ := hcut
          obtain ⟨y0, y1⟩ := ste_rng (lo := lo) (hi := hi) (x := li) A0 A1 B0 B1
          generalize steB lo hi st ti li = t' at *
          obtain ⟨s0, s1, s2⟩ := sa_cells HR2.out.2.1
          by_cases he : t' = ti
          · rw [if_pos he] at HE
            simp only [Prod.mk.injEq] at HE
            obtain ⟨rfl, rfl, rfl, rfl⟩ := HE
            subst he
            go_wp2_with (first | (refine wpList_load_part rfl 43 _ rfl b1 0 3 rfl 43 (saC t' 0 s') (0, 0) _ HR2.out.2.1 Tryz.underlying43 rfl info_sa (sa_fits _ _ _) _ (sa_all _ _ _) ?_) | (refine wpList_store_part rfl 43 _ _ rfl b2 0 (saC t' 0 s') rfl rfl 43 (saC 0 0 0) HR2.out.2.2.1 info_sa (Nat.le_refl _) (sa_one _ _ _) ?_; rw [laid_all5 (saC 0 0 0) (saC t' 0 s') rfl]))
            exact bodyPost_ret (results_sa rfl _ _ b2 _ _ _ rfl (setRow_heap _ _ _ _ _ _ HR2.out.2.2.1)) rfl ⟨rfl, below_setRow HR2.out.2.2.2.2.2 (by omega) _⟩
          · rw [if_neg he] at HE
            simp only [Prod.mk.injEq] at HE
            obtain ⟨rfl, rfl, rfl, rfl⟩ := HE
            have fa := frozen_of_row _ b1 0 _ _ HR2.out.2.1
            go_upto_region 19 with (fail)
            clear s0 s1 s2 fa
            refine abs_world (fun V3 => V3.heap[b1]? = some (.cells (saC t' 0 s') 43 (0, 0)) ∧ V3.heap[b2]? = some (.cells (saC 0 0 0) 43 (0, 0)) ∧ V3.heap[g1]? = some (.cells (ctC lo hi wi st de ca) T1 f1) ∧ Below w.heap.size w V3) ⟨(heap_setCell_same _ _ _ _ _ _ HR2.out.2.1).trans rfl, (heap_setCell_other _ _ _ _ (by simp; omega)).trans HR2.out.2.2.1, (heap_setCell_other _ _ _ _ (by simp; omega)).trans HR2.out.2.2.2.1, HR2.out.2.2.2.2.2.setCell (by simp; omega) _⟩ ?_
            clear HR2
            rintro V3 ⟨q1, q2, q3, hb⟩
            have L1 := Lib.hid q1
            have L2 := Lib.hid q2
            obtain ⟨c0, c1, c2, c3, c4, c5⟩ := ct_cells q3
            obtain ⟨s0, s1, s2⟩ := sa_cells q1
            have fb := frozen_of_row V3 b1 1 _ _ q1
            clear q1 q2 q3
            go_upto_region 20 with (fail)
            refine abs_world (fun V4 => V4.heap[b1]? = some (.cells (saC t' de s') 43 (0, 0)) ∧ V4.heap[b2]? = some (.cells (saC 0 0 0) 43 (0, 0)) ∧ Below w.heap.size w V4) ⟨(heap_setCell_same _ _ _ _ _ _ L1.out).trans rfl, (heap_setCell_other _ _ _ _ (by simp; omega)).trans L2.out, hb.setCell (by simp; omega) _⟩ ?_
            clear c0 c1 c2 c3 c4 c5 s0 s1 s2 fb L1 L2 hb
            rintro V4 ⟨q1, q2, hb⟩
            have L1 := Lib.hid q1
            have L2 := Lib.hid q2
            clear q1 q2
            go_wp2_with (first | (refine wpList_load_part rfl 43 _ rfl b1 0 3 rfl 43 (saC t' de s') (0, 0) _ L1.out Tryz.underlying43 rfl info_sa (sa_fits _ _ _) _ (sa_all _ _ _) ?_) | (refine wpList_store_part rfl 43 _ _ rfl b2 0 (saC t' de s') rfl rfl 43 (saC 0 0 0) L2.out info_sa (Nat.le_refl _) (sa_one _ _ _) ?_; rw [laid_all5 (saC 0 0 0) (saC t' de s') rfl]))
            exact bodyPost_ret (results_sa rfl _ _ b2 _ _ _ rfl (setRow_heap _ _ _ _ _ _ L2.out)) rfl ⟨rfl, below_setRow hb (by omega) _⟩

end Go.Proofs.YtddnfbpgldchcaaGreatDoor
