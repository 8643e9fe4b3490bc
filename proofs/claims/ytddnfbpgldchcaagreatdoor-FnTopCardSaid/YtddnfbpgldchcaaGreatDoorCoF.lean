/-
  A state that becomes steady: the program's and the model's.

-/
import Derived.Test.YtddnfbpgldchcaaGreatDoorCoJ
import Derived.ScopeJumps

namespace Go.Proofs.YtddnfbpgldchcaaGreatDoor

open Go.ChangeShapes Go.WideShapes Go.ChangeAt Go.RowKit Go.Deep Go.Joins

attribute [local go_sem] run_store_f

theorem wp_scope_jumps5 {P : Program} {a : Act} {w : World} {Q : Exit → Act → World → Prop} {c rest : Code} (l : Nat) (J : Act → World → Prop) (μ : Act → World → Nat) (hf : findLabel c l = some (Code.seq Code.skip rest))
    (pass : ∀ a w, J a w → rest.wp P (Exit.jump l (fun a' w' => J a' w' ∧ μ a' w' < μ a w) Q) a w)
    (first : (∀ a w, J a w → rest.wp P (Exit.jump l J Q) a w) → c.wp P (Exit.jump l J Q) a w) : (Code.scope c).wp P Q a w := by
  refine wp_scope_jumps l J μ hf (first fun a w h => ?_) (fun a w h => wp_seq (wp_skip (pass a w h)))
  refine Code.wp_mono ?_ (pass a w h)
  intro e a' w' q
  cases e with
  | goto l' => exact ⟨q.1, q.2.1⟩
  | normal => exact q
  | exit id => exact q
  | ret => exact q
  | panic ch => exact q
  | outgrown => exact q

/-- The state behind a tick; behind several; whether it is steady; the first number of ticks behind which it is. -/
abbrev St := Int × Int × Int

def nxS (lo : Nat) (hi : Nat) (wi : Nat) (st : Int) (de : Int) (ca : Int) (wd gp sh : Nat) (lg : Nat) (gu : Nat) (hg : Int) (s : St) : St := ((aftB lo hi wi st de ca wd gp sh s.1 s.2.1 s.2.2 lg gu hg).1, (aftB lo hi wi st de ca wd gp sh s.1 s.2.1 s.2.2 lg gu hg).2.1, (aftB lo hi wi st de ca wd gp sh s.1 s.2.1 s.2.2 lg gu hg).2.2.1)

def itS (f : St → St) (s : St) : Nat → St
  | 0 => s
  | k + 1 => f (itS f s k)

def stdS (f : St → St) (s : St) (k : Nat) : Bool := (f (itS f s k)).1 == (itS f s k).1 && ((f (itS f s k)).2.1 == (itS f s k).2.1 && (f (itS f s k)).2.2 == (itS f s k).2.2)

def srchS (g : Nat → Bool) : Nat → Nat → Option Nat
  | 0, _ => none
  | m + 1, k => if g k = true then some k else srchS g m (k + 1)

/-- The answer. -/
def ansS (f : St → St) (s : St) : Option Nat → St × Int × Int
  | some k => (itS f s k, (k : Int), 0)
  | none => ((0, 0, 0), 0, 6)

theorem srch_yes {g : Nat → Bool} {k : Nat} (hk : k ≤ 100) (h : g k = true) : srchS g (101 - k) k = some k := by
  obtain ⟨m, hm⟩ : ∃ m, 101 - k = m + 1 := ⟨100 - k, by omega⟩
  rw [hm, srchS, if_pos h]

theorem srch_end {g : Nat → Bool} {k : Nat} (hk : k = 100) (h : g k = false) : srchS g (101 - k) k = none := by
  subst hk
  show srchS g 1 100 = none
  rw [srchS, if_neg (by rw [h]; decide)]; rfl

theorem srch_next {g : Nat → Bool} {k : Nat} (hk : k < 100) (h : g k = false) : srchS g (101 - k) k = srchS g (101 - (k + 1)) (k + 1) := by
  obtain ⟨m, hm⟩ : ∃ m, 101 - k = m + 1 := ⟨100 - k, by omega⟩
  rw [hm, srchS, if_neg (by rw [h]; decide)]
  congr 1; omega

theorem it_ok {lo hi wi : Nat} {st de ca : Int} (c : CtOk lo hi wi st de ca) (wd gp sh : Nat) (lg : Nat) (gu : Nat) (hg : Int) (s : St) (h : SaOk s.1 s.2.1 s.2.2) : ∀ k, SaOk (itS (nxS lo hi wi st de ca wd gp sh lg gu hg) s k).1 (itS (nxS lo hi wi st de ca wd gp sh lg gu hg) s k).2.1 (itS (nxS lo hi wi st de ca wd gp sh lg gu hg) s k).2.2
  | 0 => h
  | k + 1 => aft_ok c wd gp sh (it_ok c wd gp sh lg gu hg s h k) lg gu hg

theorem wpList_val5 {P : Program} {ops : Array Oper} {rest : List Oper} {o : Oper} {a : Act} {w : World} {Q : Exit → Act → World → Prop} (hg : o.guard = none) (v : Value) (d : Option Tmp) (hd : o.dst = d)
    (hrun : ∀ w, (execOp a.eval o).run P w = .ok (.value v) w) (h : wpList P ops Q rest (a.put d v) w) : wpList P ops Q (o :: rest) a w := by
  subst hd
  refine wpList_plain hg fun K hK => ?_
  unfold Oper.wp
  simp only [hrun]
  exact hK _ _ h

theorem jump_ret5 {l : Nat} {J : Act → World → Prop} {Q : Exit → Act → World → Prop} {a : Act} {w : World} (h : Q .ret a w) : Exit.jump l J Q .ret a w := h

set_option maxRecDepth 100000 in
set_option maxHeartbeats 8000000 in
theorem iSteadyFrom_yes (lo : Nat) (hi : Nat) (wi : Nat) (st : Int) (de : Int) (ca : Int) (cw : CtWf lo hi wi st de ca) (n : Int) (wd gp : Nat) (t : Int) (sh : Nat) (bw : BlWf n wd gp t sh) (ti : Int) (wt : Int) (sm : Int) (sw : SaWf ti wt sm) (lg : Nat) (gu : Nat) (hg : Int) (kw : TkWf lg gu hg) (hc : codeO lo hi wi st de ca n wd gp t sh ti wt sm lg gu hg = 0) (R : St × Int × Int) (hR : R = ansS (nxS lo hi wi st de ca wd gp sh lg gu hg) (ti, wt, sm) (srchS (stdS (nxS lo hi wi st de ca wd gp sh lg gu hg) (ti, wt, sm)) 101 0)) (w : World) :
    Calls Tryz.prog 17 #[.agg (ctC lo hi wi st de ca), .agg (blindC n wd gp t sh), .agg (saC ti wt sm), .agg (tkC lg gu hg)] w fun e w' => e = .returned (.tuple #[.agg (saC R.1.1 R.1.2.1 R.1.2.2), .int .i64 R.2.1, .int .i64 R.2.2]) ∧ Below w.heap.size w w' := by
  obtain ⟨kc, kb, ks, kk⟩ := codeO_zero hc
  have ok := blok_of bw kb
  have co := ctok_of cw kc
  have so := saok_of ks
  have ko := tkok_of kw kk
  have HC := Lib.hid (fun (W : World) hq => ckO lo hi wi st de ca cw n wd gp t sh bw ti wt sm sw lg gu hg kw 0 hc W.heap.size 47 (0, 0) (W.alloc (.cells (tkC lg gu hg) 47)) hq)
  have HA := Lib.hid (fun (s : St) (so : SaOk s.1 s.2.1 s.2.2) t1 w1 s1 l1 ha w => after_any lo hi wi st de ca n wd gp t sh s.1 s.2.1 s.2.2 lg gu hg ok co ko so t1 w1 s1 l1 ha w)
  have HIT := Lib.hid (it_ok co wd gp sh lg gu hg (ti, wt, sm) so)
  have HCO := Lib.hid (fun w => controllerOf_any lo hi wi st de ca n wd gp t sh w)
  obtain ⟨F, hF⟩ : ∃ F, F = (nxS lo hi wi st de ca wd gp sh lg gu hg) := ⟨_, rfl⟩
  obtain ⟨s0, hs0⟩ : ∃ s0 : St, s0 = (ti, wt, sm) := ⟨_, rfl⟩
  have HN : Hid (∀ s, ((aftB lo hi wi st de ca wd gp sh s.1 s.2.1 s.2.2 lg gu hg).1, (aftB lo hi wi st de ca wd gp sh s.1 s.2.1 s.2.2 lg gu hg).2.1, (aftB lo hi wi st de ca wd gp sh s.1 s.2.1 s.2.2 lg gu hg).2.2.1) = F s) := by subst hF; exact fun _ => rfl
  rw [← hF, ← hs0] at hR HIT
  have HS0 : Hid (itS F s0 0 = (ti, wt, sm)) := hs0
  have HR0 := Lib.hid hR
  clear hF hs0 hR
  clear cw bw sw kw hc kc kb ks kk ok co so ko
  go_enter Tryz.func17, Tryz.ntmps17
  go_wp2
  refine abs_world (fun W => W.heap[w.heap.size]? = some (.cells (ctC lo hi wi st de ca) 40 (0, 0)) ∧ W.heap[w.heap.size + 1]? = some (.cells (blindC n wd gp t sh) 32 (0, 0)) ∧ W.heap[w.heap.size + 1 + 1]? = some (.cells (saC ti wt sm) 43 (0, 0)) ∧ W.heap[w.heap.size + 1 + 1 + 1]? = some (.cells (tkC lg gu hg) 47 (0, 0)) ∧ W.heap[w.heap.size + 1 + 1 + 1 + 1]? = some (.cells (saC 0 0 0) 43 (0, 0)) ∧ Below w.heap.size w W) (box5 w (.cells (ctC lo hi wi st de ca) 40) (.cells (blindC n wd gp t sh) 32) (.cells (saC ti wt sm) 43) (.cells (tkC lg gu hg) 47) (.cells (saC 0 0 0) 43)) ?_
  rintro W ⟨h0, h1, h2, h3, h4, hb⟩
  have hl1 : w.heap.size < w.heap.size + 1 := by omega
  have hl2 : w.heap.size + 1 < w.heap.size + 1 + 1 := by omega
  have hl3 : w.heap.size + 1 + 1 < w.heap.size + 1 + 1 + 1 := by omega
  have hl4 : w.heap.size + 1 + 1 + 1 < w.heap.size + 1 + 1 + 1 + 1 := by omega
  generalize w.heap.size + 1 + 1 + 1 + 1 = b4 at *
  generalize w.heap.size + 1 + 1 + 1 = b3 at *
  generalize w.heap.size + 1 + 1 = b2 at *
  generalize w.heap.size + 1 = b1 at *
  have H0 := Lib.hid h0
  have H1 := Lib.hid h1
  have H2 := Lib.hid h2
  have H3 := Lib.hid h3
  have H4 := Lib.hid h4
  clear h0 h1 h2 h3 h4
  refine wp_scope_jumps5 0 (fun a' V => ∃ (k bc : Nat) (u14 u15 u16 u17 u18 u19 u20 u21 u22 u23 u24 u25 u26 u27 u28 u29 u30 u31 u32 u33 u34 u35 u36 u37 u38 u39 u40 u41 u42 u43 u44 u45 : Value), a' = { tmps := #[.agg (ctC lo hi wi st de ca), .agg (blindC n wd gp t sh), .agg (saC ti wt sm), .agg (tkC lg gu hg), .pointer (some ⟨w.heap.size, 0, none⟩), .pointer (some ⟨b1, 0, none⟩), .pointer (some ⟨b2, 0, none⟩), .pointer (some ⟨b3, 0, none⟩), .pointer (some ⟨b4, 0, none⟩), .int .i64 0, .int .i64 0, .int .i64 0, .pointer (some ⟨bc, 0, none⟩), .int .i64 (k : Int), u14, u15, u16, u17, u18, u19, u20, u21, u22, u23, u24, u25, u26, u27, u28, u29, u30, u31, u32, u33, u34, u35, u36, u37, u38, u39, u40, u41, u42, u43, u44, u45], defers := [] } ∧ k ≤ 100 ∧ b4 < bc ∧ R = ansS F s0 (srchS (stdS F s0) (101 - k) k) ∧ V.heap[bc]? = some (.cells (conC lo hi wi st de ca n wd gp t sh) 101 (0, 0)) ∧ V.heap[b2]? = some (.cells (saC (itS F s0 k).1 (itS F s0 k).2.1 (itS F s0 k).2.2) 43 (0, 0)) ∧ V.heap[b3]? = some (.cells (tkC lg gu hg) 47 (0, 0)) ∧ V.heap[b4]? = some (.cells (saC 0 0 0) 43 (0, 0)) ∧ Below w.heap.size w V) (fun a' _ => 100 - (intOf (a'.tmps.getD 13 undef)).toNat) rfl ?pass ?first
  case pass =>
    rintro a' V ⟨k, bc, u14, u15, u16, u17, u18, u19, u20, u21, u22, u23, u24, u25, u26, u27, u28, u29, u30, u31, u32, u33, u34, u35, u36, u37, u38, u39, u40, u41, u42, u43, u44, u45, rfl, hk, hbc, hr, q0, q2, q3, q4, hb⟩
    have so := HIT.out k
    have hnext := HN.out (itS F s0 k)
    have hst0 : stdS F s0 k = ((F (itS F s0 k)).1 == (itS F s0 k).1 && ((F (itS F s0 k)).2.1 == (itS F s0 k).2.1 && (F (itS F s0 k)).2.2 == (itS F s0 k).2.2)) := rfl
    have hit1 : itS F s0 (k + 1) = F (itS F s0 k) := rfl
    have hans : ansS F s0 (some k) = (itS F s0 k, (k : Int), 0) := rfl
    obtain ⟨t1, w1, s1, l1, ha⟩ : ∃ t1 w1 s1 l1, aftB lo hi wi st de ca wd gp sh (itS F s0 k).1 (itS F s0 k).2.1 (itS F s0 k).2.2 lg gu hg = (t1, w1, s1, l1) := ⟨_, _, _, _, rfl⟩
    have HB := Lib.hid (fun w => HA.out (itS F s0 k) so t1 w1 s1 l1 ha w)
    rw [ha] at hnext
    generalize itS F s0 k = s at *
    obtain ⟨sx, sy, sz⟩ := s
    dsimp only at hnext hst0 hans so q2 HB
    rw [← hnext] at hst0 hit1
    dsimp only at hst0
    have KC := Lib.hid q0
    have K2 := Lib.hid q2
    have K3 := Lib.hid q3
    have K4 := Lib.hid q4
    have HRK := Lib.hid hr
    have HIT1 := Lib.hid hit1
    have HANS := Lib.hid hans
    have HST := Lib.hid hst0
    clear q0 q2 q3 q4 hr so ha hnext hst0 hit1 hans HA HC HN HIT HS0 HR0 HCO
    go_upto_region 7 with (first | (refine wpList_load_part rfl 101 _ rfl bc 0 13 rfl 101 (conC lo hi wi st de ca n wd gp t sh) (0, 0) _ KC.out Tryz.underlying101 rfl info_con (con_fits _ _ _ _ _ _ _ _ _ _ _) _ (con_all _ _ _ _ _ _ _ _ _ _ _) ?_) | (refine wpList_load_part rfl 43 _ rfl b2 0 3 rfl 43 (saC sx sy sz) (0, 0) _ K2.out Tryz.underlying43 rfl info_sa (sa_fits _ _ _) _ (sa_all _ _ _) ?_) | (refine wpList_load_part rfl 47 _ rfl b3 0 3 rfl 47 (tkC lg gu hg) (0, 0) _ K3.out Tryz.underlying47 rfl info_tk (tk_fits _ _ _) _ (tk_all _ _ _) ?_) | (go_at_call 61; refine (HB.out _).mono ?_; rintro e V1 ⟨rfl, hq1⟩; replace KC := Lib.hid (below_row hq1 KC.out); replace K2 := Lib.hid (below_row hq1 K2.out); replace K3 := Lib.hid (below_row hq1 K3.out); replace K4 := Lib.hid (below_row hq1 K4.out); replace hb := hb.trans (hq1.mono hb.size); clear hq1) | (refine wpList_val5 rfl (.agg (saC t1 w1 s1)) (some 32) rfl (fun _ => by kernel_rfl) ?_) | (refine wpList_store_part rfl 43 _ _ rfl V1.heap.size 0 (saC t1 w1 s1) rfl rfl 43 (saC 0 0 0) (heap_alloc_new _ _) info_sa (Nat.le_refl _) (sa_one _ _ _) ?_; rw [laid_all5 (saC 0 0 0) (saC t1 w1 s1) rfl]))
    have lc := row_lt KC.out
    have l4 := row_lt K4.out
    have hba : Below w.heap.size w (V1.alloc (.cells (saC 0 0 0) 43)) := hb.alloc hb.size _
    refine abs_world (fun V => V.heap[V1.heap.size]? = some (.cells (saC t1 w1 s1) 43 (0, 0)) ∧ V.heap[bc]? = some (.cells (conC lo hi wi st de ca n wd gp t sh) 101 (0, 0)) ∧ V.heap[b2]? = some (.cells (saC sx sy sz) 43 (0, 0)) ∧ V.heap[b3]? = some (.cells (tkC lg gu hg) 47 (0, 0)) ∧ V.heap[b4]? = some (.cells (saC 0 0 0) 43 (0, 0)) ∧ Below w.heap.size w V) ⟨setRow_heap _ _ _ _ _ _ (heap_alloc_new _ _), (setRow_other _ _ _ _ (by omega)).trans (below_row ((Below.refl _ _).alloc (Nat.le_refl _) _) KC.out), (setRow_other _ _ _ _ (by omega)).trans (below_row ((Below.refl _ _).alloc (Nat.le_refl _) _) K2.out), (setRow_other _ _ _ _ (by omega)).trans (below_row ((Below.refl _ _).alloc (Nat.le_refl _) _) K3.out), (setRow_other _ _ _ _ (by omega)).trans (below_row ((Below.refl _ _).alloc (Nat.le_refl _) _) K4.out), below_setRow hba hb.size _⟩ ?_
    clear KC K2 K3 K4 hb hba HB
    rintro V2 ⟨qn, q0, q2, q3, q4, hb⟩
    have KN := Lib.hid qn
    have KC := Lib.hid q0
    have K2 := Lib.hid q2
    have K3 := Lib.hid q3
    have K4 := Lib.hid q4
    clear qn q0 q2 q3 q4
    generalize V1.heap.size = bn at *
    have hq := run_eql_sa t1 w1 s1 sx sy sz
    have hgd := fun w => run_eqGuard_agg (P := Tryz.prog) w .eql 43 (.tmp 34) (.tmp 35) (saC t1 w1 s1) (saC sx sy sz) (by kernel_rfl)
    cases hsd : (t1 == sx && (w1 == sy && s1 == sz)) with
    | true =>
      rw [hsd] at hq
      have HRk : Hid (R = ((sx, sy, sz), (k : Int), 0)) := by
        unfold Hid
        rw [HRK.out, srch_yes hk (HST.out.trans hsd), HANS.out]
      clear hsd HRK HIT1 HANS HST
      go_upto_region 8 with (first | (refine wpList_load_part rfl 43 _ rfl bn 0 3 rfl 43 (saC t1 w1 s1) (0, 0) _ KN.out Tryz.underlying43 rfl info_sa (sa_fits _ _ _) _ (sa_all _ _ _) ?_) | (refine wpList_load_part rfl 43 _ rfl b2 0 3 rfl 43 (saC sx sy sz) (0, 0) _ K2.out Tryz.underlying43 rfl info_sa (sa_fits _ _ _) _ (sa_all _ _ _) ?_))
      clear hq hgd
      go_wp2_with (first | (refine wpList_load_part rfl 43 _ rfl b2 0 3 rfl 43 (saC sx sy sz) (0, 0) _ K2.out Tryz.underlying43 rfl info_sa (sa_fits _ _ _) _ (sa_all _ _ _) ?_) | (refine wpList_store_part rfl 43 _ _ rfl b4 0 (saC sx sy sz) rfl rfl 43 (saC 0 0 0) K4.out info_sa (Nat.le_refl _) (sa_one _ _ _) ?_; rw [laid_all5 (saC 0 0 0) (saC sx sy sz) rfl]))
      refine jump_ret5 ?_
      exact bodyPost_ret (results_sa2 rfl _ _ b4 _ _ _ rfl (setRow_heap _ _ _ _ _ _ K4.out)) rfl ⟨Eq.trans (b := Ending.returned (.tuple #[.agg (saC sx sy sz), .int .i64 ((k : Int)), .int .i64 (0)])) rfl (congrArg (fun R : St × Int × Int => Ending.returned (.tuple #[.agg (saC R.1.1 R.1.2.1 R.1.2.2), .int .i64 R.2.1, .int .i64 R.2.2])) HRk.out).symm, below_setRow hb (by omega) _⟩
    | false =>
      rw [hsd] at hq
      by_cases hk1 : k = 100
      · have HRk : Hid (R = ((0, 0, 0), 0, 6)) := by
          unfold Hid
          rw [HRK.out, srch_end hk1 (HST.out.trans hsd)]; rfl
        have h100 : ((k : Int) == 100) = true := by rw [hk1]; rfl
        clear hsd HRK HIT1 HANS HST hk1
        go_upto_region 10 with (first | (refine wpList_load_part rfl 43 _ rfl bn 0 3 rfl 43 (saC t1 w1 s1) (0, 0) _ KN.out Tryz.underlying43 rfl info_sa (sa_fits _ _ _) _ (sa_all _ _ _) ?_) | (refine wpList_load_part rfl 43 _ rfl b2 0 3 rfl 43 (saC sx sy sz) (0, 0) _ K2.out Tryz.underlying43 rfl info_sa (sa_fits _ _ _) _ (sa_all _ _ _) ?_))
        clear hq hgd h100
        go_wp2_with (first | (refine wpList_buildTo5 rfl 43 _ rfl _ rfl [] rfl (saC 0 0 0) built_sa0 ?_) | (refine wpList_store_part rfl 43 _ _ rfl b4 0 (saC 0 0 0) rfl rfl 43 (saC 0 0 0) K4.out info_sa (Nat.le_refl _) (sa_one _ _ _) ?_; rw [laid_all5 (saC 0 0 0) (saC 0 0 0) rfl]))
        refine jump_ret5 ?_
        exact bodyPost_ret (results_sa2 rfl _ _ b4 _ _ _ rfl (setRow_heap _ _ _ _ _ _ K4.out)) rfl ⟨Eq.trans (b := Ending.returned (.tuple #[.agg (saC 0 0 0), .int .i64 (0), .int .i64 (6)])) rfl (congrArg (fun R : St × Int × Int => Ending.returned (.tuple #[.agg (saC R.1.1 R.1.2.1 R.1.2.2), .int .i64 R.2.1, .int .i64 R.2.2])) HRk.out).symm, below_setRow hb (by omega) _⟩
      · have HRk : Hid (R = ansS F s0 (srchS (stdS F s0) (101 - (k + 1)) (k + 1))) := by
          unfold Hid
          rw [HRK.out, srch_next (by omega) (HST.out.trans hsd)]
        have h100 : ((k : Int) == 100) = false := beq_eq_false_iff_ne.2 (by omega)
        clear hsd HRK HANS HST
        go_upto_region 11 with (first | (refine wpList_load_part rfl 43 _ rfl bn 0 3 rfl 43 (saC t1 w1 s1) (0, 0) _ KN.out Tryz.underlying43 rfl info_sa (sa_fits _ _ _) _ (sa_all _ _ _) ?_) | (refine wpList_load_part rfl 43 _ rfl b2 0 3 rfl 43 (saC sx sy sz) (0, 0) _ K2.out Tryz.underlying43 rfl info_sa (sa_fits _ _ _) _ (sa_all _ _ _) ?_))
        clear hq hgd h100
        go_upto_region 12 with (first | (refine wpList_load_part rfl 43 _ rfl bn 0 3 rfl 43 (saC t1 w1 s1) (0, 0) _ KN.out Tryz.underlying43 rfl info_sa (sa_fits _ _ _) _ (sa_all _ _ _) ?_) | (refine wpList_store_part rfl 43 _ _ rfl b2 0 (saC t1 w1 s1) rfl rfl 43 (saC sx sy sz) K2.out info_sa (Nat.le_refl _) (sa_one _ _ _) ?_; rw [laid_all5 (saC sx sy sz) (saC t1 w1 s1) rfl]))
        refine abs_world (fun V => V.heap[bc]? = some (.cells (conC lo hi wi st de ca n wd gp t sh) 101 (0, 0)) ∧ V.heap[b2]? = some (.cells (saC t1 w1 s1) 43 (0, 0)) ∧ V.heap[b3]? = some (.cells (tkC lg gu hg) 47 (0, 0)) ∧ V.heap[b4]? = some (.cells (saC 0 0 0) 43 (0, 0)) ∧ Below w.heap.size w V) ⟨(setRow_other _ _ _ _ (by omega)).trans KC.out, setRow_heap _ _ _ _ _ _ K2.out, (setRow_other _ _ _ _ (by omega)).trans K3.out, (setRow_other _ _ _ _ (by omega)).trans K4.out, below_setRow hb (by omega) _⟩ ?_
        clear KN KC K2 K3 K4 hb
        rintro V3 hrel
        go_wp2
        go_step3
        refine ⟨rfl, ⟨k + 1, bc, _, _, _, _, _, _, _, _, _, _, _, _, _, _, _, _, _, _, _, _, _, _, _, _, _, _, _, _, _, _, _, _, rfl, by omega, hbc, HRk.out, ?_⟩, ?_⟩
        · rw [HIT1.out]; exact hrel
        · show 100 - (intOf (.int .i64 ((k : Int) + 1))).toNat < 100 - (intOf (.int .i64 (k : Int))).toNat
          simp [intOf]; omega
  case first =>
    intro HK
    go_upto_region 4 with (first | (refine wpList_load_part rfl 40 _ rfl w.heap.size 0 6 rfl 40 (ctC lo hi wi st de ca) (0, 0) _ H0.out Tryz.underlying40 rfl info_ct (ct_fits _ _ _ _ _ _) _ (ct_all _ _ _ _ _ _) ?_) | (refine wpList_load_part rfl 32 _ rfl b1 0 5 rfl 32 (blindC n wd gp t sh) (0, 0) _ H1.out Tryz.underlying32 rfl info_blind (blind_fits _ _ _ _ _) _ (blind_all _ _ _ _ _) ?_) | (refine wpList_load_part rfl 43 _ rfl b2 0 3 rfl 43 (saC ti wt sm) (0, 0) _ H2.out Tryz.underlying43 rfl info_sa (sa_fits _ _ _) _ (sa_all _ _ _) ?_) | (refine wpList_load_part rfl 47 _ rfl b3 0 3 rfl 47 (tkC lg gu hg) (0, 0) _ H3.out Tryz.underlying47 rfl info_tk (tk_fits _ _ _) _ (tk_all _ _ _) ?_) | (refine wpList_buildSlice5 rfl 109 47 1 _ rfl _ rfl _ rfl Tryz.underlying109 (tkC lg gu hg) [(0, .agg (tkC lg gu hg))] rfl (built_tks lg gu hg) ?_) | (go_at_call 59; refine (HC.out _ (heap_alloc_new _ _)).mono ?_; rintro e V1 ⟨rfl, hq1⟩; replace hq1 := ((Below.refl W.heap.size W).alloc (Nat.le_refl _) (.cells (tkC lg gu hg) 47)).trans (hq1.mono (by simp)); replace H0 := Lib.hid (below_row hq1 H0.out); replace H1 := Lib.hid (below_row hq1 H1.out); replace H2 := Lib.hid (below_row hq1 H2.out); replace H3 := Lib.hid (below_row hq1 H3.out); replace H4 := Lib.hid (below_row hq1 H4.out); replace hb := hb.trans (hq1.mono hb.size); clear hq1))
    go_upto_region 5 with (first | (refine wpList_load_part rfl 40 _ rfl w.heap.size 0 6 rfl 40 (ctC lo hi wi st de ca) (0, 0) _ H0.out Tryz.underlying40 rfl info_ct (ct_fits _ _ _ _ _ _) _ (ct_all _ _ _ _ _ _) ?_) | (refine wpList_load_part rfl 32 _ rfl b1 0 5 rfl 32 (blindC n wd gp t sh) (0, 0) _ H1.out Tryz.underlying32 rfl info_blind (blind_fits _ _ _ _ _) _ (blind_all _ _ _ _ _) ?_) | (refine wpList_load_part rfl 43 _ rfl b2 0 3 rfl 43 (saC ti wt sm) (0, 0) _ H2.out Tryz.underlying43 rfl info_sa (sa_fits _ _ _) _ (sa_all _ _ _) ?_) | (refine wpList_load_part rfl 47 _ rfl b3 0 3 rfl 47 (tkC lg gu hg) (0, 0) _ H3.out Tryz.underlying47 rfl info_tk (tk_fits _ _ _) _ (tk_all _ _ _) ?_) | (go_at_call 60; refine (HCO.out _).mono ?_; rintro e V2 ⟨rfl, hq2⟩; replace H0 := Lib.hid (below_row hq2 H0.out); replace H1 := Lib.hid (below_row hq2 H1.out); replace H2 := Lib.hid (below_row hq2 H2.out); replace H3 := Lib.hid (below_row hq2 H3.out); replace H4 := Lib.hid (below_row hq2 H4.out); replace hb := hb.trans (hq2.mono hb.size); clear hq2) | (refine wpList_store_part rfl 101 _ _ rfl V2.heap.size 0 (conC lo hi wi st de ca n wd gp t sh) rfl rfl 101 (conC 0 0 0 0 0 0 0 0 0 0 0) (heap_alloc_new _ _) info_con (Nat.le_refl _) (con_one _ _ _ _ _ _ _ _ _ _ _) ?_; rw [laid_all5 (conC 0 0 0 0 0 0 0 0 0 0 0) (conC lo hi wi st de ca n wd gp t sh) rfl]))
    have l4 := row_lt H4.out
    have hba : Below w.heap.size w (V2.alloc (.cells (conC 0 0 0 0 0 0 0 0 0 0 0) 101)) := hb.alloc hb.size _
    refine abs_world (fun V => V.heap[V2.heap.size]? = some (.cells (conC lo hi wi st de ca n wd gp t sh) 101 (0, 0)) ∧ V.heap[b2]? = some (.cells (saC ti wt sm) 43 (0, 0)) ∧ V.heap[b3]? = some (.cells (tkC lg gu hg) 47 (0, 0)) ∧ V.heap[b4]? = some (.cells (saC 0 0 0) 43 (0, 0)) ∧ Below w.heap.size w V) ⟨setRow_heap _ _ _ _ _ _ (heap_alloc_new _ _), (setRow_other _ _ _ _ (by omega)).trans (below_row ((Below.refl _ _).alloc (Nat.le_refl _) _) H2.out), (setRow_other _ _ _ _ (by omega)).trans (below_row ((Below.refl _ _).alloc (Nat.le_refl _) _) H3.out), (setRow_other _ _ _ _ (by omega)).trans (below_row ((Below.refl _ _).alloc (Nat.le_refl _) _) H4.out), below_setRow hba hb.size _⟩ ?_
    clear H0 H1 H2 H3 H4 hb hba
    rintro V3 hrel
    generalize V2.heap.size = bc at *
    go_wp2
    go_step3
    refine (‹∀ (a : Act) (w : World), Code.wp _ _ _ a w → _› _ _ (HK _ _ ⟨0, bc, _, _, _, _, _, _, _, _, _, _, _, _, _, _, _, _, _, _, _, _, _, _, _, _, _, _, _, _, _, _, _, _, rfl, by decide, l4, HR0.out, ?_⟩))
    rw [HS0.out]; exact hrel

end Go.Proofs.YtddnfbpgldchcaaGreatDoor
