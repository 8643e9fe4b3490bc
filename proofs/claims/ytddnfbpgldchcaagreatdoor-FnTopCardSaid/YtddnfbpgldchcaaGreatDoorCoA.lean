/-
  A tick of a controller: what is told in numbers; the cells of a controller.

-/
import Derived.Test.YtddnfbpgldchcaaGreatDoorCtOk
import Derived.Test.YtddnfbpgldchcaaGreatDoorBlk
import Derived.Test.YtddnfbpgldchcaaGreatDoorBox
import Derived.Test.YtddnfbpgldchcaaGreatDoorTake
import Derived.Test.YtddnfbpgldchcaaGreatDoorBlkRun
import Derived.Laws.Tables

namespace Go.Proofs.YtddnfbpgldchcaaGreatDoor

open Go.ChangeShapes Go.WideShapes Go.ChangeAt Go.RowKit Go.Deep Go.Joins

attribute [local go_sem] run_store_f

/-- How long the blind is still kept up; the light inside; the tilt behind a step. -/
def stoB (gu wi : Nat) (ca sm : Int) : Int := if gt0 (ordB gu wi) = true then ca else if 0 < sm then sm - 1 else 0

def insB (lg wd gp : Nat) (ti : Int) (sh : Nat) (hg : Int) : Nat := fmul lg (pasB wd gp ti sh hg)

def steB (lo hi : Nat) (st ti : Int) (x : Nat) : Int := if gt0 (ordB x hi) = true then min (ti + st) 64 else if lt0 (ordB x lo) = true then max (ti - st) (-64) else ti

/-- What is behind a tick: the tilt, how long it waits, how long it is kept up; and the light inside in it. -/
def aftB (lo : Nat) (hi : Nat) (wi : Nat) (st : Int) (de : Int) (ca : Int) (wd gp : Nat) (sh : Nat) (ti : Int) (wt : Int) (sm : Int) (lg : Nat) (gu : Nat) (hg : Int) : Int × Int × Int × Nat :=
  if 0 < stoB gu wi ca sm then (ti, wt, stoB gu wi ca sm, lg)
  else if 0 < wt then (ti, wt - 1, stoB gu wi ca sm, insB lg wd gp ti sh hg)
  else if steB lo hi st ti (insB lg wd gp ti sh hg) = ti then (ti, wt, stoB gu wi ca sm, insB lg wd gp ti sh hg)
  else (steB lo hi st ti (insB lg wd gp ti sh hg), de, stoB gu wi ca sm, insB lg wd gp ti sh hg)

structure CtOk (lo : Nat) (hi : Nat) (wi : Nat) (st : Int) (de : Int) (ca : Int) : Prop where
  lo : isNum lo
  hi : isNum hi
  wi : isNum wi
  s0 : 1 ≤ st
  s1 : st ≤ 64
  d0 : 0 ≤ de
  d1 : de ≤ 20
  c0 : 1 ≤ ca
  c1 : ca ≤ 20

structure SaOk (ti : Int) (wt : Int) (sm : Int) : Prop where
  t0 : -64 ≤ ti
  t1 : ti ≤ 64
  w0 : 0 ≤ wt
  w1 : wt ≤ 20
  s0 : 0 ≤ sm
  s1 : sm ≤ 20

structure TkOk (lg : Nat) (gu : Nat) (hg : Int) : Prop where
  lg : lg ≤ 1065353216 ∨ lg = 2147483648
  gu : isNum gu
  h0 : 1 ≤ hg
  h1 : hg ≤ 64

theorem ctok_of {lo hi wi : Nat} {st de ca : Int} (cw : CtWf lo hi wi st de ca) (h : okCt lo hi wi st de ca = true) : CtOk lo hi wi st de ca := by
  simp only [okCt, Bool.and_eq_true] at h
  obtain ⟨⟨⟨⟨⟨⟨h1, h2⟩, _⟩, h4⟩, h5⟩, h6⟩, h7⟩ := h
  obtain ⟨a0, a1⟩ := inI_get h5
  obtain ⟨b0, b1⟩ := inI_get h6
  obtain ⟨c0, c1⟩ := inI_get h7
  exact ⟨part_num cw.1 h1, part_num cw.2.1 h2, part_num cw.2.2.1 h4, a0, a1, b0, b1, c0, c1⟩

theorem saok_of {ti wt sm : Int} (h : okSa ti wt sm = true) : SaOk ti wt sm := by
  simp only [okSa, Bool.and_eq_true] at h
  obtain ⟨⟨h1, h2⟩, h3⟩ := h
  obtain ⟨a0, a1⟩ := inI_get h1
  obtain ⟨b0, b1⟩ := inI_get h2
  obtain ⟨c0, c1⟩ := inI_get h3
  exact ⟨a0, a1, b0, b1, c0, c1⟩

theorem tkok_of {lg gu : Nat} {hg : Int} (kw : TkWf lg gu hg) (h : okTk lg gu hg = true) : TkOk lg gu hg := by
  simp only [okTk, Bool.and_eq_true] at h
  obtain ⟨⟨h1, h2⟩, h3⟩ := h
  obtain ⟨a0, a1⟩ := inI_get h3
  exact ⟨part_get kw.1 h1, part_num kw.2.1 h2, a0, a1⟩

theorem ins_ok {lg wd gp : Nat} {ti : Int} {sh : Nat} {hg : Int} (hl : lg ≤ 1065353216 ∨ lg = 2147483648) (hs : sh ≤ 1065353216 ∨ sh = 2147483648) :
    floatBits .mul .f32 lg (pasB wd gp ti sh hg) = some (insB lg wd gp ti sh hg) ∧ isNum (insB lg wd gp ti sh hg) := by
  have hp := (pas_facts wd gp ti hs hg).2.2.2.2
  unfold insB
  generalize pasB wd gp ti sh hg = p at *
  rcases hl with hl | rfl
  · refine ⟨(mul_rnd (by omega) (by omega)).1, .inl ?_⟩
    have m := mul_mono (x := lg) (X := 1065353216) (y := p) (Y := 2139095039) (by decide) (by decide) hl (by omega)
    have e : fmul 1065353216 2139095039 = 2139095039 := by decide +kernel
    rw [e] at m
    omega
  · have m := (mul_neg0 (x := p) hp).2
    rw [fmul_get m]
    exact ⟨m, .inr (by decide)⟩

theorem sto_rng {gu wi : Nat} {ca sm : Int} (c0 : 1 ≤ ca) (c1 : ca ≤ 20) (s0 : 0 ≤ sm) (s1 : sm ≤ 20) : 0 ≤ stoB gu wi ca sm ∧ stoB gu wi ca sm ≤ 20 := by
  unfold stoB
  split
  · omega
  · split <;> omega

theorem ste_rng {lo hi : Nat} {st ti : Int} {x : Nat} (s0 : 1 ≤ st) (s1 : st ≤ 64) (t0 : -64 ≤ ti) (t1 : ti ≤ 64) : -64 ≤ steB lo hi st ti x ∧ steB lo hi st ti x ≤ 64 := by
  unfold steB
  split
  · omega
  · split <;> omega

theorem aft_ok {lo hi wi : Nat} {st de ca : Int} (c : CtOk lo hi wi st de ca) (wd gp sh : Nat) {ti wt sm : Int} (s : SaOk ti wt sm) (lg gu : Nat) (hg : Int) :
    SaOk (aftB lo hi wi st de ca wd gp sh ti wt sm lg gu hg).1 (aftB lo hi wi st de ca wd gp sh ti wt sm lg gu hg).2.1 (aftB lo hi wi st de ca wd gp sh ti wt sm lg gu hg).2.2.1 := by
  obtain ⟨a, b⟩ := sto_rng (gu := gu) (wi := wi) c.c0 c.c1 s.s0 s.s1
  obtain ⟨p, q⟩ := ste_rng (lo := lo) (hi := hi) (x := insB lg wd gp ti sh hg) c.s0 c.s1 s.t0 s.t1
  have h0 := s.w0
  have h1 := s.w1
  unfold aftB
  split
  · exact ⟨s.t0, s.t1, s.w0, s.w1, a, b⟩
  · split
    · exact ⟨s.t0, s.t1, by show 0 ≤ wt - 1; omega, by show wt - 1 ≤ 20; omega, a, b⟩
    · split
      · exact ⟨s.t0, s.t1, s.w0, s.w1, a, b⟩
      · exact ⟨p, q, c.d0, c.d1, a, b⟩

/-- A controller, as cells. -/
def conC (lo : Nat) (hi : Nat) (wi : Nat) (st : Int) (de : Int) (ca : Int) (n : Int) (wd gp : Nat) (t : Int) (sh : Nat) : Array Value := #[.float .f32 lo, .float .f32 hi, .float .f32 lo, .float .f32 hi, .float .f32 wi, .int .i8 st, .int .i8 de, .int .i8 ca, .int .i8 n, .float .f32 wd, .float .f32 gp, .int .i16 t, .float .f32 sh]

theorem info_con : (Tryz.prog.info? 101).map (·.size) = some 13 := by kernel_rfl

theorem info_bd : (Tryz.prog.info? 99).map (·.size) = some 2 := by kernel_rfl

theorem con_fits (lo : Nat) (hi : Nat) (wi : Nat) (st : Int) (de : Int) (ca : Int) (n : Int) (wd gp : Nat) (t : Int) (sh : Nat) : 0 + 13 ≤ (conC lo hi wi st de ca n wd gp t sh).size := Nat.le_refl _

theorem con_fits2 (lo : Nat) (hi : Nat) (wi : Nat) (st : Int) (de : Int) (ca : Int) (n : Int) (wd gp : Nat) (t : Int) (sh : Nat) : 0 + 2 ≤ (conC lo hi wi st de ca n wd gp t sh).size := by show 2 ≤ 13; decide

theorem con_fits8 (lo : Nat) (hi : Nat) (wi : Nat) (st : Int) (de : Int) (ca : Int) (n : Int) (wd gp : Nat) (t : Int) (sh : Nat) : 8 + 5 ≤ (conC lo hi wi st de ca n wd gp t sh).size := Nat.le_refl _

theorem con_all (lo : Nat) (hi : Nat) (wi : Nat) (st : Int) (de : Int) (ca : Int) (n : Int) (wd gp : Nat) (t : Int) (sh : Nat) : (conC lo hi wi st de ca n wd gp t sh).extract 0 (0 + 13) = conC lo hi wi st de ca n wd gp t sh := rfl

theorem con_bd (lo : Nat) (hi : Nat) (wi : Nat) (st : Int) (de : Int) (ca : Int) (n : Int) (wd gp : Nat) (t : Int) (sh : Nat) : (conC lo hi wi st de ca n wd gp t sh).extract 0 (0 + 2) = #[.float .f32 lo, .float .f32 hi] := rfl

theorem con_bl (lo : Nat) (hi : Nat) (wi : Nat) (st : Int) (de : Int) (ca : Int) (n : Int) (wd gp : Nat) (t : Int) (sh : Nat) : (conC lo hi wi st de ca n wd gp t sh).extract 8 (8 + 5) = blindC n wd gp t sh := rfl

theorem con_one (lo : Nat) (hi : Nat) (wi : Nat) (st : Int) (de : Int) (ca : Int) (n : Int) (wd gp : Nat) (t : Int) (sh : Nat) : ∀ v ∈ conC lo hi wi st de ca n wd gp t sh, v.oneCell' = true := by
  intro v hv
  simp only [conC, List.mem_toArray, List.mem_cons, List.not_mem_nil, or_false] at hv
  rcases hv with rfl | rfl | rfl | rfl | rfl | rfl | rfl | rfl | rfl | rfl | rfl | rfl | rfl <;> rfl

theorem con_cells {lo hi wi : Nat} {st de ca : Int} {n : Int} {wd gp : Nat} {t : Int} {sh : Nat} {W : World} {b : Nat} {T : TypeId} {fr : Nat × Nat} (h : W.heap[b]? = some (.cells (conC lo hi wi st de ca n wd gp t sh) T fr)) :
    W.cell? ⟨b, 4, none⟩ = some (.float .f32 wi) ∧ W.cell? ⟨b, 5, none⟩ = some (.int .i8 st) ∧ W.cell? ⟨b, 6, none⟩ = some (.int .i8 de) ∧ W.cell? ⟨b, 7, none⟩ = some (.int .i8 ca) :=
  ⟨by rw [cell_of_row W _ _ _ _ _ h]; rfl, by rw [cell_of_row W _ _ _ _ _ h]; rfl, by rw [cell_of_row W _ _ _ _ _ h]; rfl, by rw [cell_of_row W _ _ _ _ _ h]; rfl⟩

theorem laid_all5 (cs vs : Array Value) (h : cs.size = vs.size) : laid cs vs 0 = vs := by
  apply Array.ext'
  simp [laid]
  rw [← h]; simp

theorem run_store_row5 {P : Program} (w : World) (g : Nat) (t : TypeId) (vs old : Array Value) (hg : w.heap[g]? = some (.cells old t (0, 0))) (hs : old.size = vs.size) (h1 : ∀ v ∈ vs, v.oneCell' = true) :
    (storeCells ⟨g, 0, none⟩ vs.toList).run P w = .ok () (w.setRow g vs) := by
  have hst := run_storeCells_at P g 0 t vs.toList 0 old w hg (by simp; omega) (fun v hv => h1 v (by simpa using hv))
  have hl := laid_all5 old vs hs
  unfold laid at hl
  simp only [Nat.add_zero] at hst
  rw [hst]
  simp at hl ⊢
  rw [hl]

end Go.Proofs.YtddnfbpgldchcaaGreatDoor
