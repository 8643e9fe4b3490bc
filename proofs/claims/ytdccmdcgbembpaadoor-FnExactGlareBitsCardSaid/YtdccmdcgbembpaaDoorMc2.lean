/-
  Law, LawC, GbL, Open.
-/
import Derived.Test.YtdccmdcgbembpaaDoorRows
import Derived.WalkKit
import Derived.ProofKit
import Derived.OpenShut
import Derived.Test.YtdccmdcgbembpaaDoorErrs
import Derived.ChangeVars
import Derived.JoinedOf
import Derived.LaidLaws
import Derived.Stop.Joined
import Derived.OpenVars
import Derived.Test.YtdccmdcgbembpaaDoorMc1
import Derived.Test.YtdccmdcgbembpaaDoorRoomE
import Derived.Test.YtdccmdcgbembpaaDoorRoomK
import Derived.Test.YtdccmdcgbembpaaDoorSameN
import Derived.Test.YtdccmdcgbembpaaDoorDeskA
import Derived.Test.YtdccmdcgbembpaaDoorSun

namespace Go.Proofs.YtdccmdcgbembpaaDoor
open Go.ChangeShapes Go.WideShapes Go.ChangeAt Go.RowKit

set_option maxRecDepth 100000 in
theorem law_own : ownKnob Tryd.prog.godebug = none := by kernel_rfl
set_option maxRecDepth 100000 in
theorem law_laidOut : laidOutB Tryd.prog = true := by kernel_rfl

theorem trodAll_below {H : Type} {enc : TypeId × Value → H} {P : Program} (hl : laidOutB P = true) {W W' : World} (hb : Below W.heap.size W W') :
    ∀ (ts : List TypeId) (vs : List Value) (ds : List (DataW H)) (ps : List MemPlace), (∀ t ∈ ts, P.readableRec t = true ∧ t < P.types.size) →
      DataW.TrodAll enc P W 0 (fun _ => true) true ts vs ds ps → (∀ x ∈ ps, x.block < W.heap.size) → DataW.TrodAll enc P W' 0 (fun b => decide (b < W.heap.size)) true ts vs ds ps
  | [], vs, ds, ps, _, h, _ => by
    obtain ⟨rfl, rfl, rfl⟩ := trodAll_nil h
    exact trodAll_mk0
  | t :: ts, vs, ds, ps, hr, h, hlt => by
    obtain ⟨v, vs', d, ds', p, q, rfl, rfl, rfl, h0, r0⟩ := trodAll_cons h
    have ht := hr t (by simp)
    exact trodAll_cons_mk (Below.trod hl ht.1 ht.2 h0 hb (fun x hx => hlt x (by simp [hx]))) (trodAll_below hl hb ts vs' ds' q (fun t ht => hr t (by simp [ht])) r0 (fun x hx => hlt x (by simp [hx])))

set_option maxRecDepth 100000 in
theorem law_lifted (F : FuncId) (fn : Func) (s : ChangeSpec) (conds : List PathCond) (os : Os) (started : os.Started) (H : Type) (enc : TypeId × Value → H)
    (hno : Tryd.checked.prog.inits.idxOf? F = none) (hfn : Tryd.checked.prog.funcs[F]? = some fn) (hv : s.vars = []) (hr : fn.resultTypes = #[4])
    (hts : ∀ t ∈ fn.params.toList, Tryd.prog.readableRec t = true ∧ t < Tryd.prog.types.size)
    (hspec : ∀ ds : List (DataW H), ds.length = fn.params.size → s.fn H (ds ++ []) = { results := [.lit (.bool true)], args := ds })
    (wit : ∃ (w : World) (tape : Tape) (i : Input), w.os = os ∧ (w.forCall tape i).Shaped Tryd.checked.prog ∧ i.vars = [] ∧ Input.okWide Tryd.checked.prog (w.forCall tape i) .any w.heap.size F i ∧
      s.pre6 enc Tryd.checked.prog fn conds false (w.forCall tape i).memory i.args ∧ ({} : Assume).holds Tryd.checked.prog (lone (Frame.enter Tryd.checked.prog F i.args .normal) [] (w.forCall tape i)))
    (walk : ∀ (W : World) (base : Nat) (args : Array Value) (ds : List (DataW H)) (p : List MemPlace),
      (∀ (j : Nat) t v, fn.params[j]? = some t → args[j]? = some v → Value.okWide Tryd.prog W .any base t v) →
      DataW.TrodAll enc Tryd.prog W 0 (fun _ => true) true fn.params.toList args.toList ds p →
      Calls Tryd.prog F args W fun e W' => e = .returned (.bool true) ∧ Below W.heap.size W W') :
    ReturnsInHanded {} Tryd.checked os F .any (s.pre6 enc Tryd.prog fn conds false) (s.post enc Tryd.prog fn false true false false) := by
  refine returnsInHanded_of_change (C := Tryd.checked) law_own started hno hfn wit ?_
  intro W base args ds gs before hval0 hW hcnd _
  have hW' := hW
  obtain ⟨p, q, hA0, hV, rfl, hfz, hnd⟩ := hW
  rw [hv] at hV
  obtain ⟨rfl, rfl⟩ := trodVars_none hV
  have hlen : ds.length = fn.params.size := by
    have key : ∀ (ts : List TypeId) (vs : List Value) (ds : List (DataW H)) (ps : List MemPlace), DataW.TrodAll enc Tryd.checked.prog W 0 (fun _ => true) true ts vs ds ps → ds.length = ts.length := by
      intro ts
      induction ts with
      | nil => intro vs ds ps h; obtain ⟨_, rfl, _⟩ := trodAll_nil h; rfl
      | cons t ts ih => intro vs ds ps h; obtain ⟨v, vs', d, ds', p, q, _, rfl, _, _, r0⟩ := trodAll_cons h; simp [ih _ _ _ r0]
    simpa using key _ _ _ _ hA0
  refine (walk W base args ds p hval0 hA0).mono fun e W' ⟨he, hg⟩ => ?_
  subst he
  have hlt : ∀ x ∈ p, x.block < W.heap.size := fun x hx => hW'.lt x (by simp [hx])
  refine ⟨_, rfl, _, _, _, [], p, [], hW', ?_, ?_, ?_, hg.frame _, fun h => by cases h⟩
  · rw [hspec ds hlen, hr]
    exact trodAll_mk1 (shut_bool Tryd.underlying4 _)
  · rw [hspec ds hlen]
    exact trodAll_below law_laidOut hg _ _ _ _ hts hA0 hlt
  · rw [hspec ds hlen, hv]
    rfl

end Go.Proofs.YtdccmdcgbembpaaDoor

namespace Go.Proofs.YtdccmdcgbembpaaDoor
open Go.ChangeShapes Go.WideShapes Go.ChangeAt Go.RowKit

set_option maxRecDepth 100000 in
theorem door_met (os : Os) (args : Array Value) : laidMetH Tryd.prog lst ((World.doorLaid Tryd.prog 200 os).forCall (fun _ _ => 0) ⟨#[], args, []⟩).memory :=
  laidMetH_of_parts3 (fuel := 8) (laidMet_of_run' 8 (by kernel_rfl) (by kernel_rfl)) (by kernel_rfl) (by kernel_rfl)

set_option maxRecDepth 100000 in
theorem door_shaped (os : Os) : (World.doorLaid Tryd.prog 200 os).Shaped Tryd.prog := World.shaped_of_RefB (by kernel_rfl) (by kernel_rfl)

/-- The condition of a row that lists the sentinels. -/
abbrev Met (w : World) (_ : Array Value) : Prop := laidMetH Tryd.prog lst w

set_option maxRecDepth 100000 in
theorem law_liftedC (F : FuncId) (fn : Func) (s : ChangeSpec) (conds : List PathCond) (os : Os) (started : os.Started) (H : Type) (enc : TypeId × Value → H)
    (hno : Tryd.checked.prog.inits.idxOf? F = none) (hfn : Tryd.checked.prog.funcs[F]? = some fn) (hv : varsRowed Tryd.prog s.vars = true) (hvl : s.vars.length = 4) (hr : fn.resultTypes = #[4])
    (hts : ∀ t ∈ fn.params.toList, Tryd.prog.readableRec t = true ∧ t < Tryd.prog.types.size)
    (hspec : ∀ ds gs : List (DataW H), ds.length = fn.params.size → gs.length = 4 → s.fn H (ds ++ gs) = { results := [.lit (.bool true)], args := ds, vars := gs })
    (wit : ∃ (w : World) (tape : Tape) (i : Input), w.os = os ∧ (w.forCall tape i).Shaped Tryd.checked.prog ∧ i.vars = [] ∧ Input.okWide Tryd.checked.prog (w.forCall tape i) .any w.heap.size F i ∧
      ((s.pre enc Tryd.checked.prog fn conds false (w.forCall tape i).memory i.args ∧ Met (w.forCall tape i).memory i.args) ∧ sizedMet enc Tryd.checked.prog fn (OpenSpec.ofChange s) false (w.forCall tape i).memory i.args) ∧ ({} : Assume).holds Tryd.checked.prog (lone (Frame.enter Tryd.checked.prog F i.args .normal) [] (w.forCall tape i)))
    (walk : ∀ (W : World) (base : Nat) (args : Array Value) (ds : List (DataW H)) (p : List MemPlace),
      (∀ (j : Nat) t v, fn.params[j]? = some t → args[j]? = some v → Value.okWide Tryd.prog W .any base t v) →
      DataW.TrodAll enc Tryd.prog W 0 (fun _ => true) true fn.params.toList args.toList ds p → laidMetH Tryd.prog lst W →
      Calls Tryd.prog F args W fun e W' => e = .returned (.bool true) ∧ Below W.heap.size W W') :
    ReturnsInHanded {} Tryd.checked os F .any (fun w args => (s.pre enc Tryd.prog fn conds false w args ∧ laidMetH Tryd.prog lst w) ∧ sizedMet enc Tryd.prog fn (OpenSpec.ofChange s) false w args) (s.post enc Tryd.prog fn false true false false) := by
  refine returnsInHanded_of_change_and (C := Tryd.checked) (X := Met) (fun _ _ _ hh h => h.of_heap hh) law_own started hno hfn wit ?_
  intro W base args ds gs before hval0 hW hcnd _ hL _
  have hW' := hW
  obtain ⟨p, q, hA0, hV, rfl, hfz, hnd⟩ := hW
  have hgl : gs.length = 4 := by
    have key : ∀ (ns : List String) (gs : List (DataW H)) (ps : List MemPlace), DataW.TrodVars enc Tryd.checked.prog W (fun _ => true) ns gs ps → gs.length = ns.length := by
      intro ns
      induction ns with
      | nil => intro gs ps h; obtain ⟨rfl, _⟩ := trodVars_none h; rfl
      | cons n ns ih =>
        intro gs ps h
        cases gs with
        | nil => exact h.elim
        | cons d ds => obtain ⟨_, _, _, _, _, _, _, _, _, _, hs, _⟩ := h; simp [ih _ _ hs]
    rw [key _ _ _ hV, hvl]
  have hlen : ds.length = fn.params.size := by
    have key : ∀ (ts : List TypeId) (vs : List Value) (ds : List (DataW H)) (ps : List MemPlace), DataW.TrodAll enc Tryd.checked.prog W 0 (fun _ => true) true ts vs ds ps → ds.length = ts.length := by
      intro ts
      induction ts with
      | nil => intro vs ds ps h; obtain ⟨_, rfl, _⟩ := trodAll_nil h; rfl
      | cons t ts ih => intro vs ds ps h; obtain ⟨v, vs', d, ds', p, q, _, rfl, _, _, r0⟩ := trodAll_cons h; simp [ih _ _ _ r0]
    simpa using key _ _ _ _ hA0
  refine (walk W base args ds p hval0 hA0 hL).mono fun e W' ⟨he, hg⟩ => ?_
  subst he
  have hlt : ∀ x ∈ p, x.block < W.heap.size := fun x hx => hW'.lt x (by simp [hx])
  refine ⟨_, rfl, _, _, _, [], p, q, hW', ?_, ?_, ?_, hg.frame _, fun h => by cases h⟩
  · rw [hspec ds gs hlen hgl, hr]
    exact trodAll_mk1 (shut_bool Tryd.underlying4 _)
  · rw [hspec ds gs hlen hgl]
    exact trodAll_below law_laidOut hg _ _ _ _ hts hA0 hlt
  · rw [hspec ds gs hlen hgl]
    exact Below.trodVars law_laidOut hg hv hV

end Go.Proofs.YtdccmdcgbembpaaDoor

namespace Go.Proofs.YtdccmdcgbembpaaDoor
open Go.ChangeShapes Go.WideShapes Go.ChangeAt Go.RowKit Go.Deep Go.Joins

attribute [local go_sem] run_store_f

set_option maxRecDepth 100000 in
theorem open_desks {H : Type} {enc : TypeId × Value → H} {W : World} {b0 base : Nat} {spare : Nat → Bool} {held : Bool} {r : Reach} {v : Value} {d : DataW H} {p : List MemPlace}
    (hv : Value.okWide Tryd.prog W r b0 52 v) (h : DataW.Trod enc Tryd.prog W base spare held 52 v d p) : ∃ ts, DksAt W v ts ∧ ∀ x ∈ ts, DkWf x := by
  obtain ⟨a0, len0, cap0, rfl⟩ := okWide_slice Tryd.underlying52 hv
  obtain ⟨fuel, hf⟩ := h
  exact open_dks hf

set_option maxRecDepth 100000 in
set_option maxHeartbeats 8000000 in
theorem lawGb_core (wd hg : Int) (sv : Value) (ws : List Wn) (dv : Value) (ds : List Dk) (bd : Nat) (v0 v1 : Int) (e0 e1 e2 e3 : Addr)
    (hS : ∀ (s d : Value) (W : World), WinsAt W s ws → DksAt W d ds → Calls Tryd.prog 25 #[.agg (roomC wd hg s), d, .float .f32 bd] W fun e w' => e = .returned (.tuple #[.int .u16 v0, .int .i64 v1]) ∧ Below W.heap.size W w')
    (hI : ∀ (s d : Value) (W : World), WinsAt W s ws → DksAt W d ds → ErrsAt W e0 e1 e2 e3 → Calls Tryd.prog 27 #[.agg (roomC wd hg s), d, .float .f32 bd] W fun e w' => e = .returned (.tuple #[.int .u16 v0, .int .i64 v1]) ∧ Below W.heap.size W w')
    (w : World) (hws : WinsAt w sv ws) (hds : DksAt w dv ds) (hE : ErrsAt w e0 e1 e2 e3) :
    Calls Tryd.prog 6 #[.agg (roomC wd hg sv), dv, .float .f32 bd] w fun e w' => e = .returned (.bool true) ∧ Below w.heap.size w w' := by
  have HA := Lib.hid hws
  have HD := Lib.hid hds
  have HX := Lib.hid hE
  have HS := Lib.hid hS
  have HI := Lib.hid hI
  have zc : (v1 != v1) = false := by simp
  have zb : (v0 != v0) = false := by simp
  have hsv := hws
  have hdv := hds
  obtain ⟨a0, cap0, esv, hl1, hl2, _⟩ := hsv
  obtain ⟨d0, dcap, edv, hm1, hm2, _⟩ := hdv
  unfold maxLen at hl2 hm2
  have HZ := Lib.hid (fun w => szRoom_any wd hg a0 ws.length cap0 1048576 (by omega) (by decide) (by decide) w)
  rw [← esv] at HZ
  have hlr : (leftI ws.length 1048576 < 0 ∧ 1048576 < ws.length) ∨ ((0 ≤ leftI ws.length 1048576 ∧ leftI ws.length 1048576 ≤ 1048576) ∧ ws.length ≤ 1048576) := by unfold leftI; split <;> omega
  clear hws hds esv hl1 hl2 hE hS hI
  generalize leftI (ws.length : Int) 1048576 = lf at *
  go_enter Tryd.func6, Tryd.ntmps6
  go_upto_region 1 with (fail)
  refine abs_world (fun W => W.heap[w.heap.size]? = some (.cells (roomC wd hg sv) 25 (0, 0)) ∧ Below w.heap.size w W) ⟨heap_alloc_new _ _, (Below.refl _ _).alloc (Nat.le_refl _) _⟩ ?_
  rintro W ⟨h0, hb⟩
  have H0 := Lib.hid h0
  replace HA := Lib.hid (wins_below HA.out hb)
  replace HD := Lib.hid (dks_below HD.out hb)
  replace HX := Lib.hid (errs_below HX.out hb)
  clear h0
  rcases hlr with ⟨hlf, _⟩ | ⟨⟨hlf, hlf2⟩, hlen⟩
  · go_wp2_with (first | (refine wpList_load_part rfl 25 _ rfl w.heap.size 0 3 rfl 25 (roomC wd hg sv) (0, 0) _ H0.out Tryd.underlying25 rfl info_roomL (room_fits _ _ _) _ (room_all _ _ _) ?_) | (go_at_call 11; refine (HZ.out _).mono ?_; rintro e W1 ⟨rfl, hb1⟩; replace H0 := Lib.hid (below_row hb1 H0.out); replace HA := Lib.hid (wins_below HA.out hb1); replace HD := Lib.hid (dks_below HD.out hb1); replace HX := Lib.hid (errs_below HX.out hb1); replace hb := hb.trans (hb1.mono hb.size); clear hb1))
    go_ret
    exact ⟨rfl, hb⟩
  · have HZD := Lib.hid (fun w => szDeskS_any d0 ds.length dcap lf (by omega) hlf hlf2 w)
    rw [← edv] at HZD
    have hlr2 : (leftI ds.length lf < 0 ∧ lf < ds.length) ∨ (0 ≤ leftI ds.length lf ∧ ds.length ≤ 1048576) := by unfold leftI; split <;> omega
    clear edv hm1 hm2
    generalize leftI (ds.length : Int) lf = lg at *
    rcases hlr2 with ⟨hlg, _⟩ | ⟨hlg, hlend⟩
    · go_wp2_with (first | (refine wpList_load_part rfl 25 _ rfl w.heap.size 0 3 rfl 25 (roomC wd hg sv) (0, 0) _ H0.out Tryd.underlying25 rfl info_roomL (room_fits _ _ _) _ (room_all _ _ _) ?_) | (go_at_call 11; refine (HZ.out _).mono ?_; rintro e W1 ⟨rfl, hb1⟩; replace H0 := Lib.hid (below_row hb1 H0.out); replace HA := Lib.hid (wins_below HA.out hb1); replace HD := Lib.hid (dks_below HD.out hb1); replace HX := Lib.hid (errs_below HX.out hb1); replace hb := hb.trans (hb1.mono hb.size); clear hb1) | (go_at_call 24; refine (HZD.out _).mono ?_; rintro e W1 ⟨rfl, rfl⟩))
      go_ret
      exact ⟨rfl, hb⟩
    · go_upto_region 9 with (first | (refine wpList_load_part rfl 25 _ rfl w.heap.size 0 3 rfl 25 (roomC wd hg sv) (0, 0) _ H0.out Tryd.underlying25 rfl info_roomL (room_fits _ _ _) _ (room_all _ _ _) ?_) | (go_at_call 11; refine (HZ.out _).mono ?_; rintro e W1 ⟨rfl, hb1⟩; replace H0 := Lib.hid (below_row hb1 H0.out); replace HA := Lib.hid (wins_below HA.out hb1); replace HD := Lib.hid (dks_below HD.out hb1); replace HX := Lib.hid (errs_below HX.out hb1); replace hb := hb.trans (hb1.mono hb.size); clear hb1) | (go_at_call 24; refine (HZD.out _).mono ?_; rintro e W1 ⟨rfl, rfl⟩) | (go_at_call 13; refine (toRoom_any wd hg sv ws hlen _ HA.out).mono ?_; rintro e W2 ⟨⟨v3, rfl, hv⟩, hb1⟩; have HV1 := Lib.hid (ownW_at hv); have HO1 := Lib.hid (room_one wd hg hv); clear hv; replace H0 := Lib.hid (below_row hb1 H0.out); replace HA := Lib.hid (wins_below HA.out hb1); replace HD := Lib.hid (dks_below HD.out hb1); replace HX := Lib.hid (errs_below HX.out hb1); replace hb := hb.trans (hb1.mono hb.size); clear hb1) | (go_at_call 26; refine (toDeskS_any dv ds hlend _ HD.out).mono ?_; rintro e W3 ⟨⟨v4, rfl, hv⟩, hb1⟩; have HV2 := Lib.hid (ownDk_at hv); clear hv; replace H0 := Lib.hid (below_row hb1 H0.out); replace HA := Lib.hid (wins_below HA.out hb1); replace HD := Lib.hid (dks_below HD.out hb1); replace HX := Lib.hid (errs_below HX.out hb1); replace hb := hb.trans (hb1.mono hb.size); replace HV1 := Lib.hid (wins_below HV1.out hb1); clear hb1) | (go_at_call 25; refine (HS.out _ _ _ HV1.out HV2.out).mono ?_; rintro e W4 ⟨rfl, hb1⟩; replace H0 := Lib.hid (below_row hb1 H0.out); replace HA := Lib.hid (wins_below HA.out hb1); replace HD := Lib.hid (dks_below HD.out hb1); replace HX := Lib.hid (errs_below HX.out hb1); replace hb := hb.trans (hb1.mono hb.size); clear hb1))
      clear HV1 HV2 HO1 HZ HZD
      go_upto_region 10 with (first | (refine wpList_load_part rfl 25 _ rfl w.heap.size 0 3 rfl 25 (roomC wd hg sv) (0, 0) _ H0.out Tryd.underlying25 rfl info_roomL (room_fits _ _ _) _ (room_all _ _ _) ?_) | (go_at_call 13; refine (toRoom_any wd hg sv ws hlen _ HA.out).mono ?_; rintro e W2 ⟨⟨v5, rfl, hv⟩, hb1⟩; have HV1 := Lib.hid (ownW_at hv); have HO1 := Lib.hid (room_one wd hg hv); clear hv; replace H0 := Lib.hid (below_row hb1 H0.out); replace HA := Lib.hid (wins_below HA.out hb1); replace HD := Lib.hid (dks_below HD.out hb1); replace HX := Lib.hid (errs_below HX.out hb1); replace hb := hb.trans (hb1.mono hb.size); clear hb1) | (refine wpList_store_part rfl 34 _ _ rfl _ 0 (roomC wd hg v5) rfl rfl 34 _ (heap_alloc_new _ _) (by kernel_rfl) (Nat.le_refl _) HO1.out ?_; rw [laid_allr _ _ (by rfl)]))
      refine abs_world (fun X => X.heap[w.heap.size]? = some (.cells (roomC wd hg sv) 25 (0, 0)) ∧ X.heap[W2.heap.size]? = some (.cells (roomC wd hg v5) 34 (0, 0)) ∧ WinsAt X sv ws ∧ WinsAt X v5 ws ∧ DksAt X dv ds ∧ ErrsAt X e0 e1 e2 e3 ∧ Below w.heap.size w X) ⟨below_row (gbZ _ _ _) H0.out, setRow_heap _ _ _ _ _ _ (heap_alloc_new _ _), wins_below HA.out (gbZ _ _ _), wins_below HV1.out (gbZ _ _ _), dks_below HD.out (gbZ _ _ _), errs_below HX.out (gbZ _ _ _), hb.trans ((gbZ _ _ _).mono hb.size)⟩ ?_
      clear H0 HA HX hb HV1 HD HO1
      generalize W2.heap.size = rb at *
      rintro X ⟨h0, hr, ha, hw1, hd, hx, hb⟩
      have H0 := Lib.hid h0
      have HR := Lib.hid hr
      have HA := Lib.hid ha
      have HW1 := Lib.hid hw1
      have HD := Lib.hid hd
      have HX := Lib.hid hx
      clear h0 hr ha hw1 hx hd
      go_upto_region 11 with (go_at_call 26; refine (toDeskS_any dv ds hlend _ HD.out).mono ?_; rintro e W3 ⟨⟨v6, rfl, hv⟩, hb1⟩; have HV6 := Lib.hid (ownDk_at hv); clear hv; replace H0 := Lib.hid (below_row hb1 H0.out); replace HA := Lib.hid (wins_below HA.out hb1); replace HD := Lib.hid (dks_below HD.out hb1); replace HX := Lib.hid (errs_below HX.out hb1); replace hb := hb.trans (hb1.mono hb.size); replace HR := Lib.hid (below_row hb1 HR.out); replace HW1 := Lib.hid (wins_below HW1.out hb1); clear hb1)
      go_upto_region 12 with (first | (refine wpList_load_part rfl 34 _ rfl rb 0 3 rfl 34 (roomC wd hg v5) (0, 0) _ HR.out Tryd.underlying34 rfl info_room (room_fits _ _ _) _ (room_all _ _ _) ?_) | (go_at_call 27; refine (HI.out _ _ _ HW1.out HV6.out HX.out).mono ?_; rintro e W7 ⟨rfl, hb1⟩; replace H0 := Lib.hid (below_row hb1 H0.out); replace HA := Lib.hid (wins_below HA.out hb1); replace HD := Lib.hid (dks_below HD.out hb1); replace HX := Lib.hid (errs_below HX.out hb1); replace hb := hb.trans (hb1.mono hb.size); replace HR := Lib.hid (below_row hb1 HR.out); replace HW1 := Lib.hid (wins_below HW1.out hb1); replace HV6 := Lib.hid (dks_below HV6.out hb1); clear hb1))
      go_upto_region 14 with (fail)
      refine wp_region_held_drew (S := (fun W => W.heap[rb]? = some (.cells (roomC wd hg v5) 34 (0, 0)) ∧ W.heap[w.heap.size]? = some (.cells (roomC wd hg sv) 25 (0, 0)) ∧ WinsAt W sv ws ∧ WinsAt W v5 ws ∧ DksAt W dv ds ∧ DksAt W v6 ds ∧ ErrsAt W e0 e1 e2 e3 ∧ Below w.heap.size w W)) (by kernel_rfl) ⟨HR.out, H0.out, HA.out, HW1.out, HD.out, HV6.out, errs_below HX.out (Below.refl _ _).drew, hb.drew⟩ (fun hHeld => ?_)
      refine take_op (i := 0) (d := 52) (v := .agg (roomC wd hg v5)) rfl rfl (by kernel_rfl) (by kernel_rfl) (by kernel_rfl) (fun _ _ _ h => h) (yields_row (by rfl) 34 (.tmp 10) (by rfl) rb 0 3 (by rfl) 34 (roomC wd hg v5) (0, 0) _ (fun _ h => h.1) Tryd.underlying34 rfl info_room (room_fits _ _ _) (roomC wd hg v5) (room_all _ _ _)) hHeld ?_
      simp only [List.setIfInBounds_toArray, List.set_cons_zero, List.set_cons_succ]
      refine take_op (i := 1) (d := 53) (v := .agg (roomC wd hg sv)) rfl rfl (by kernel_rfl) (by kernel_rfl) (by kernel_rfl) (fun _ _ _ h => h) (yields_row (by rfl) 25 (.tmp 3) (by rfl) w.heap.size 0 3 (by rfl) 25 (roomC wd hg sv) (0, 0) _ (fun _ h => h.2.1) Tryd.underlying25 rfl info_roomL (room_fits _ _ _) (roomC wd hg sv) (room_all _ _ _)) hHeld ?_
      simp only [List.setIfInBounds_toArray, List.set_cons_zero, List.set_cons_succ]
      refine wpAnyH_ready (rs := [2]) (by kernel_rfl) (by simp) ?_
      refine AllReadyH.cons rfl (fun K hK => ?_) AllReadyH.nil
      go_simp
      refine (toRoom_any wd hg sv ws hlen _ hHeld.2.2.1).mono ?_
      rintro e Wa ⟨⟨v9, rfl, hv9⟩, hb1⟩
      have HV9 := Lib.hid (ownW_at hv9)
      clear hv9
      refine hK.out _ _ (⟨below_row hb1 hHeld.1, below_row hb1 hHeld.2.1, wins_below hHeld.2.2.1 hb1, wins_below hHeld.2.2.2.1 hb1, dks_below hHeld.2.2.2.2.1 hb1, dks_below hHeld.2.2.2.2.2.1 hb1, errs_below hHeld.2.2.2.2.2.2.1 hb1, hHeld.2.2.2.2.2.2.2.trans (hb1.mono hHeld.2.2.2.2.2.2.2.size)⟩) (fun hHeld2 => ?_)
      clear hK K
      replace hHeld := hHeld2
      clear hHeld2
      clear hb1
      refine wpAnyH_ready (rs := [3]) (by kernel_rfl) (by simp) ?_
      refine AllReadyH.cons rfl (fun K hK => ?_) AllReadyH.nil
      go_simp
      refine (eqRoom_any wd hg v5 v9 ws _ hHeld.2.2.2.1 HV9.out).mono ?_
      rintro e Wb ⟨rfl, hb1⟩
      refine hK.out _ _ (⟨below_row hb1 hHeld.1, below_row hb1 hHeld.2.1, wins_below hHeld.2.2.1 hb1, wins_below hHeld.2.2.2.1 hb1, dks_below hHeld.2.2.2.2.1 hb1, dks_below hHeld.2.2.2.2.2.1 hb1, errs_below hHeld.2.2.2.2.2.2.1 hb1, hHeld.2.2.2.2.2.2.2.trans (hb1.mono hHeld.2.2.2.2.2.2.2.size)⟩) (fun hHeld2 => ?_)
      clear hK K
      replace hHeld := hHeld2
      clear hHeld2
      clear hb1
      refine take_op (i := 4) (d := 56) (v := ?_) rfl rfl (by kernel_rfl) (by kernel_rfl) (by kernel_rfl) (fun _ _ _ h => h) (Or.inl ⟨by rfl, ?hy4e16⟩) hHeld ?rest4e16
      case hy4e16 =>
        intro w' hS'
        go_simp
        try with_reducible rfl
      simp only [List.setIfInBounds_toArray, List.set_cons_zero, List.set_cons_succ]
      refine wpAnyH_done (by kernel_rfl) ?_ _
      obtain ⟨-, h0, ha, -, hd, h6, hx, hbz⟩ := hHeld
      clear H0 HA HD HX HV6 HR HW1 hb HV9
      have H0 := Lib.hid h0
      have HA := Lib.hid ha
      have HD := Lib.hid hd
      have HX := Lib.hid hx
      have HV6 := Lib.hid h6
      have hb := hbz
      clear h0 ha hd hx h6 hbz
      go_wp2_with (first | (go_at_call 26; refine (toDeskS_any dv ds hlend _ HD.out).mono ?_; rintro e W3 ⟨⟨v7, rfl, hv⟩, hb1⟩; have HV7 := Lib.hid (ownDk_at hv); clear hv; replace H0 := Lib.hid (below_row hb1 H0.out); replace HA := Lib.hid (wins_below HA.out hb1); replace HD := Lib.hid (dks_below HD.out hb1); replace HX := Lib.hid (errs_below HX.out hb1); replace hb := hb.trans (hb1.mono hb.size); replace HV6 := Lib.hid (dks_below HV6.out hb1); clear hb1) | (go_at_call 28; refine (eqDeskS_any v6 v7 ds _ HV6.out HV7.out).mono ?_; rintro e W9 ⟨rfl, hb1⟩; replace hb := hb.trans (hb1.mono hb.size); clear hb1))
      go_ret
      exact ⟨rfl, hb⟩

theorem FnExactGlareBits_walk (wd hg : Int) (sv : Value) (ws : List Wn) (rw0 : RmWf wd hg ws) (dv : Value) (ds : List Dk) (hdf : ∀ x ∈ ds, DkWf x) (bd : Nat) (_ : (Lit.float .f32 bd).wf = true) (w : World) (hws : WinsAt w sv ws) (hds : DksAt w dv ds) {e0 e1 e2 e3 : Addr} (hE : ErrsAt w e0 e1 e2 e3) :
    Calls Tryd.prog 6 #[.agg (roomC wd hg sv), dv, .float .f32 bd] w fun e w' => e = .returned (.bool true) ∧ Below w.heap.size w w' := by
  obtain ⟨iw, ih, hwf⟩ := rw0
  by_cases hc : codeG (okRm wd hg ws) (fin32 bd) (ds.all (fitD wd hg)) ds.length = 0
  · have hk : okRm wd hg ws = true ∧ fin32 bd = true ∧ ds.all (fitD wd hg) = true ∧ ds.length ≤ 8 := by
      unfold codeG at hc
      cases h1 : okRm wd hg ws <;> cases h2 : fin32 bd <;> cases h3 : ds.all (fitD wd hg) <;> rw [h1, h2, h3] at hc <;> simp at hc
      exact ⟨rfl, rfl, rfl, by omega⟩
    obtain ⟨hv, hn, ha, hl⟩ := hk
    have ok := okRm_get hv
    exact lawGb_core wd hg sv ws dv ds bd _ _ e0 e1 e2 e3 (fun s d W h1 h2 => sGb_y wd hg iw ih s d ws hwf ds hdf bd W h1 h2 ok hc ha hl) (fun s d W h1 h2 h3 => iGb_y wd hg s d ws ok hwf ds bd e0 e1 e2 e3 W h1 h2 h3 hv hn ha hl) w hws hds hE
  · exact lawGb_core wd hg sv ws dv ds bd _ _ e0 e1 e2 e3 (fun s d W h1 h2 => sGb_n wd hg iw ih s d ws hwf ds hdf bd W h1 h2 _ rfl hc) (fun s d W h1 h2 h3 => iGb_n wd hg s d ws ds bd e0 e1 e2 e3 W h1 h2 h3 _ rfl hc) w hws hds hE

end Go.Proofs.YtdccmdcgbembpaaDoor

namespace Go.Proofs.YtdccmdcgbembpaaDoor
open Go.ChangeShapes Go.WideShapes Go.ChangeAt Go.RowKit

set_option maxRecDepth 100000 in
theorem cells_sunL : Tryd.prog.cellsOf 67 = 48 := by kernel_rfl

set_option maxRecDepth 100000 in
theorem cells_arr : Tryd.prog.cellsOf 65 = 24 := by kernel_rfl

set_option maxRecDepth 100000 in
theorem cells_i16 : Tryd.prog.cellsOf 64 = 1 := by kernel_rfl

def rd16 : Value → Int | .int _ n => n | _ => 0

set_option maxRecDepth 100000 in
theorem open_arr {H : Type} {enc : TypeId × Value → H} {W : World} {base : Nat} {spare : Nat → Bool} {held : Bool} {fuel : Nat} {cs : List Value} {x : DataW H × List MemPlace}
    (h : DataW.trod enc Tryd.prog W base spare held fuel 65 cs = some x) : ∀ i, i < 24 → ∃ n, cs[i]? = some (.int .i16 n) ∧ -32768 ≤ n ∧ n ≤ 32767 := by
  obtain ⟨xs, m, _, _, hl, hlen, hf⟩ := Go.DataW.trod_array Tryd.underlying65 h
  rw [cells_arr] at hl
  intro i hi
  have h1 := hf i hi
  rw [cells_i16, Nat.mul_one] at h1
  rw [List.getElem?_eq_getElem (by omega : i < xs.length)] at h1
  obtain ⟨n, hn, _, hw⟩ := DataW.trod_int Tryd.underlying64 h1
  refine ⟨n, ?_, ?_⟩
  · have h2 : ((cs.drop i).take 1)[0]? = some (.int .i16 n) := by rw [hn]; rfl
    rw [List.getElem?_take_of_lt (by decide), List.getElem?_drop] at h2
    simpa using h2
  · simp [Lit.wf, IntKind.min, IntKind.max, IntKind.signed, IntKind.bits] at hw
    omega

set_option maxRecDepth 100000 in
theorem open_sun {H : Type} {enc : TypeId × Value → H} {W : World} {b0 base : Nat} {spare : Nat → Bool} {held : Bool} {r : Reach} {v : Value} {d : DataW H} {p : List MemPlace}
    (hv : Value.okWide Tryd.prog W r b0 67 v) (h : DataW.Trod enc Tryd.prog W base spare held 67 v d p) :
    ∃ hs ts : List Int, hs.length = 24 ∧ ts.length = 24 ∧ (∀ x ∈ hs ++ ts, -32768 ≤ x ∧ x ≤ 32767) ∧ v = .agg (sunC hs ts) := by
  obtain ⟨cs, rfl, hsz⟩ := okWide_struct Tryd.underlying67 hv
  rw [cells_sunL] at hsz
  obtain ⟨fuel, hf⟩ := h
  obtain ⟨y0, y1, n, hx, _, h0, h1⟩ := trod_struct2 Tryd.underlying67 hf
  have hall : ∀ i, i < 48 → ∃ n, cs.toList[i]? = some (.int .i16 n) ∧ -32768 ≤ n ∧ n ≤ 32767 := by
    intro i hi
    by_cases c : i < 24
    · obtain ⟨n, hn, hb⟩ := open_arr h0 i c
      refine ⟨n, ?_, hb⟩
      simp only [Value.cells, cells_arr, List.drop_zero] at hn
      rwa [List.getElem?_take_of_lt c] at hn
    · obtain ⟨n, hn, hb⟩ := open_arr h1 (i - 24) (by omega)
      refine ⟨n, ?_, hb⟩
      simp only [Value.cells, cells_arr] at hn
      rw [List.getElem?_take_of_lt (by omega), List.getElem?_drop] at hn
      rwa [show 24 + (i - 24) = i by omega] at hn
  have hlen : cs.toList.length = 48 := by simpa using hsz
  have hcs : cs = i16s (cs.toList.map rd16) := by
    apply Array.ext'
    simp only [i16s, List.map_map]
    apply List.ext_getElem?
    intro i
    by_cases c : i < 48
    · obtain ⟨n, hn, _⟩ := hall i c
      rw [hn, List.getElem?_map, hn]; rfl
    · rw [List.getElem?_eq_none (by omega), List.getElem?_eq_none (by simp; omega)]
  refine ⟨(cs.toList.map rd16).take 24, (cs.toList.map rd16).drop 24, by simp; omega, by simp; omega, ?_, ?_⟩
  · rw [List.take_append_drop]
    intro x hx
    obtain ⟨i, hi, rfl⟩ := List.mem_iff_getElem.1 hx
    simp only [List.length_map] at hi
    obtain ⟨n, hn, hb⟩ := hall i (by omega)
    rw [List.getElem?_eq_getElem hi] at hn
    simp only [List.getElem_map]
    have : cs.toList[i] = .int .i16 n := by injection hn
    rw [this]; exact hb
  · unfold sunC
    rw [List.take_append_drop, ← hcs]

end Go.Proofs.YtdccmdcgbembpaaDoor
