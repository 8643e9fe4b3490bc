/-
  TrM, TrJ, LawC, Leave, TrN, SunEq, MirrorLaw, MirrorSpec.
-/
import Derived.Test.YtpcmcopfdghdgaaDoorMt3
import Derived.Test.YtpcmcopfdghdgaaDoorMt2
import Derived.Test.YtpcmcopfdghdgaaDoorTake
import Derived.Test.YtpcmcopfdghdgaaDoorRows
import Derived.Test.YtpcmcopfdghdgaaDoorMt1
import Derived.WalkKit
import Derived.ProofKit
import Derived.OpenShut
import Derived.ChangeVars
import Derived.JoinedOf
import Derived.LaidLaws
import Derived.Stop.Joined
import Derived.OpenVars
import Derived.Conc.Holds
import Derived.Leaving

namespace Go.Proofs.YtpcmcopfdghdgaaDoor
open Go.ChangeShapes Go.WideShapes Go.ChangeAt Go.RowKit Go.Deep Go.Joins

attribute [local go_sem] run_store_f

set_option maxHeartbeats 1000000 in
theorem l00Min_ap (a : Int) (w : World) : Calls Tryd.prog 70 #[.int .i64 a, .int .i64 (256 - a)] w fun e w' => e = .returned (.int .i64 (apT a)) ∧ w = w' := by
  by_cases h : a < 256 - a
  · have e : apT a = a := if_neg (by omega)
    rw [e]
    go_enter Tryd.func70, Tryd.ntmps70
    go_wp2
    go_ret
    exact ⟨rfl, rfl⟩
  · have e : apT a = 256 - a := by unfold apT; split <;> omega
    rw [e]
    have h' : 256 - a ≤ a := by omega
    go_enter Tryd.func70, Tryd.ntmps70
    go_wp2
    go_ret
    exact ⟨rfl, rfl⟩
theorem hid_split (hs ts : List Int) (x : Tr) (k u v : Int) (hu : atH hs k = u) (hv : atH ts k = v) :
    (decide (0 < u) = false ∧ hidT hs ts x k = false) ∨ (decide (0 < u) = true ∧ decide (u ≤ x.2.2) = false ∧ hidT hs ts x k = false) ∨ (decide (0 < u) = true ∧ decide (u ≤ x.2.2) = true ∧ decide (apT (angB (v - x.1)) ≤ x.2.1) = hidT hs ts x k) := by
  unfold hidT
  rw [hu, hv]
  cases decide (0 < u) <;> cases decide (u ≤ x.2.2) <;> simp

theorem any_hit {trs : List Tr} {p : Tr → Bool} {x : Tr} {k : Nat} (h : trs[k]? = some x) (hp : p x = true) : trs.any p = true := List.any_eq_true.2 ⟨x, List.mem_of_getElem? h, hp⟩

set_option maxRecDepth 100000 in
set_option maxHeartbeats 8000000 in
theorem l04Hidden_any (sv : Value) (trs : List Tr) (hwf : ∀ x ∈ trs, TrWf x) (hs ts : List Int) (hh : hs.length = 24) (ht : ts.length = 24) (k : Nat) (hk : k < 24) (u v : Int) (hu : hs[k]?.getD 0 = u) (hv : ts[k]?.getD 0 = v) (ub : -64 ≤ u ∧ u ≤ 64) (vb : 0 ≤ v ∧ v ≤ 255) (g : Nat) (T : TypeId) (w : World) (hts : TreesAt w sv trs) (q : w.heap[g]? = some (.cells (sunC hs ts) T (0, 0))) :
    Calls Tryd.prog 48 #[sv, .pointer (some ⟨g, 0, none⟩), .int .i64 (k : Int)] w fun e w' => e = .returned (.bool (trs.any (fun x => hidT hs ts x (k : Int)))) ∧ Below w.heap.size w w' := by
  have HW := Lib.hid hts
  have HF := Lib.hid hwf
  have Q := Lib.hid q
  have hc := cell_sun_h q hh k hk
  rw [hu] at hc
  obtain ⟨ub0, ub1⟩ := ub
  obtain ⟨vb0, vb1⟩ := vb
  have HSP := Lib.hid (fun x => hid_split hs ts x (k : Int) u v (by unfold atH; rw [Int.toNat_natCast]; exact hu) (by unfold atH; rw [Int.toNat_natCast]; exact hv))
  have Hu := Lib.hid hu
  have Hv := Lib.hid hv
  have hk1 : (k : Int) < 24 := by omega
  have u0 : IntKind.i64.wrap u = u := IntWalk.i64_in _ (by omega)
  have u1 : IntKind.i64.wrap v = v := IntWalk.i64_in _ (by omega)
  have Hh := Lib.hid hh
  have Ht := Lib.hid ht
  clear hh ht
  generalize hp : (fun x => hidT hs ts x (k : Int)) = p at *
  have HPX : Hid (∀ x, hidT hs ts x (k : Int) = p x) := fun x => by rw [← hp]
  obtain ⟨a, cap, rfl, hl1, hl2, _⟩ := hts
  unfold maxLen at hl2
  generalize hn : trs.length = n at *
  have HN := Lib.hid hn
  clear hn hwf hp q hu hv
  go_enter Tryd.func48, Tryd.ntmps48
  go_wp2
  go_loopw [8] (fun i wr => ∃ m : Nat, m ≤ n ∧ i = .int .i64 m ∧ Below w.heap.size w wr ∧ (trs.take m).any p = false) (fun i _ => n - (intOf i).toNat)
  case atStart => exact ⟨0, Nat.zero_le _, rfl, Below.refl _ _, rfl⟩
  case round =>
    clear hc
    obtain ⟨m, hm, rfl, hb, hany⟩ := hrel
    have HA := Lib.hid hany
    clear hany
    by_cases hlt : m < n
    · have hx : trs[m]? = some (trs[m]'(by rw [HN.out]; exact hlt)) := List.getElem?_eq_getElem _
      obtain ⟨g', o', rfl, hc⟩ := tree_at (trees_below HW.out hb) hx
      have HC := Lib.hid hc
      have hts : trs.take (m + 1) = trs.take m ++ [trs[m]'(by rw [HN.out]; exact hlt)] := by rw [List.take_succ_eq_append_getElem]
      have HT := Lib.hid hts
      have hwx := HF.out _ (List.mem_of_getElem? hx)
      generalize (trs[m]'(by rw [HN.out]; exact hlt)) = x at *
      have HD := Lib.hid hx
      obtain ⟨⟨x0, x1⟩, ⟨y0, y1⟩, t0, t1⟩ := hwx
      have z1 : (m : Int) < (n : Int) := by omega
      have z2 : (0 : Int) ≤ (m : Int) := by omega
      have H1 := Lib.hid (below_row hb Q.out)
      have u2 : IntKind.i64.wrap x.1 = x.1 := IntWalk.i64_in _ (by omega)
      have u3 : IntKind.i64.wrap (v - x.1) = v - x.1 := IntWalk.i64_in _ (by omega)
      have u5 : IntKind.i64.wrap x.2.1 = x.2.1 := IntWalk.i64_in _ (by omega)
      have u6 : IntKind.i64.wrap x.2.2 = x.2.2 := IntWalk.i64_in _ (by omega)
      have a0 := angB_lo (v - x.1)
      have a1 := angB_hi (v - x.1)
      have HG := Lib.hid (fun w => l01Angle_any (v - x.1) w)
      have hsp := HSP.out x
      rw [HPX.out x] at hsp
      generalize angB (v - x.1) = a at *
      have u4 : IntKind.i64.wrap (256 - a) = 256 - a := IntWalk.i64_in _ (by omega)
      clear hc hts hx
      rcases hsp with ⟨hup, ef⟩ | ⟨hup, hd, ef⟩ | ⟨hup, hd, hdw⟩
      · have EF := Lib.hid ef
        clear ef
        go_wp2
        refine wp_region_held_drew (S := (fun V => Below wr.heap.size wr V)) (by kernel_rfl) ((Below.refl _ _).drew) (fun hHeld => ?_)
        refine take_op (i := 0) (d := 23) (v := ?_) rfl rfl (by kernel_rfl) (by kernel_rfl) (by kernel_rfl) (fun _ _ _ h => h) (Or.inl ⟨by rfl, ?hy0u70⟩) hHeld ?rest0u70
        case hy0u70 =>
          intro w' hS'
          go_simp
          try with_reducible rfl
        simp only [List.setIfInBounds_toArray, List.set_cons_zero, List.set_cons_succ]
        refine take_op (i := 1) (d := 24) (v := ?_) rfl rfl (by kernel_rfl) (by kernel_rfl) (by kernel_rfl) (fun _ _ _ h => h) (Or.inl ⟨by rfl, ?hy1u71⟩) hHeld ?rest1u71
        case hy1u71 =>
          intro w' hS'
          go_simp
          try with_reducible rfl
        simp only [List.setIfInBounds_toArray, List.set_cons_zero, List.set_cons_succ]
        refine take_op (i := 2) (d := 25) (v := ?_) rfl rfl (by kernel_rfl) (by kernel_rfl) (by kernel_rfl) (fun _ _ _ h => h) (Or.inl ⟨by rfl, ?hy2u72⟩) hHeld ?rest2u72
        case hy2u72 =>
          intro w' hS'
          go_simp
          try with_reducible rfl
        simp only [List.setIfInBounds_toArray, List.set_cons_zero, List.set_cons_succ]
        refine take_op (i := 3) (d := 26) (v := ?_) rfl rfl (by kernel_rfl) (by kernel_rfl) (by kernel_rfl) (fun _ _ _ h => h) (Or.inl ⟨by rfl, ?hy3u73⟩) hHeld ?rest3u73
        case hy3u73 =>
          intro w' hS'
          go_simp
          try with_reducible rfl
        simp only [List.setIfInBounds_toArray, List.set_cons_zero, List.set_cons_succ]
        refine take_op (i := 4) (d := 27) (v := ?_) rfl rfl (by kernel_rfl) (by kernel_rfl) (by kernel_rfl) (fun _ _ _ h => h) (Or.inl ⟨by rfl, ?hy4u74⟩) hHeld ?rest4u74
        case hy4u74 =>
          intro w' hS'
          go_simp
          try with_reducible rfl
        simp only [List.setIfInBounds_toArray, List.set_cons_zero, List.set_cons_succ]
        refine take_op (i := 5) (d := 28) (v := ?_) rfl rfl (by kernel_rfl) (by kernel_rfl) (by kernel_rfl) (fun _ _ _ h => h) (Or.inl ⟨by rfl, ?hy5u75⟩) hHeld ?rest5u75
        case hy5u75 =>
          intro w' hS'
          (have q0 : w'.cell? ⟨g, 24 + k, none⟩ = some (.int .i16 v) := by (have q := cell_sun_t (below_row hS' H1.out) Hh.out Ht.out k hk; rw [Hv.out] at q; exact q)); go_simp
          try with_reducible rfl
        simp only [List.setIfInBounds_toArray, List.set_cons_zero, List.set_cons_succ]
        refine take_op (i := 6) (d := 29) (v := ?_) rfl rfl (by kernel_rfl) (by kernel_rfl) (by kernel_rfl) (fun _ _ _ h => h) (Or.inl ⟨by rfl, ?hy6u76⟩) hHeld ?rest6u76
        case hy6u76 =>
          intro w' hS'
          go_simp
          try with_reducible rfl
        simp only [List.setIfInBounds_toArray, List.set_cons_zero, List.set_cons_succ]
        refine take_op (i := 7) (d := 30) (v := ?_) rfl rfl (by kernel_rfl) (by kernel_rfl) (by kernel_rfl) (fun _ _ _ h => h) (Or.inl ⟨by rfl, ?hy7u77⟩) hHeld ?rest7u77
        case hy7u77 =>
          intro w' hS'
          go_simp
          try with_reducible rfl
        simp only [List.setIfInBounds_toArray, List.set_cons_zero, List.set_cons_succ]
        refine take_op (i := 8) (d := 31) (v := ?_) rfl rfl (by kernel_rfl) (by kernel_rfl) (by kernel_rfl) (fun _ _ _ h => h) (Or.inl ⟨by rfl, ?hy8u78⟩) hHeld ?rest8u78
        case hy8u78 =>
          intro w' hS'
          go_simp
          try with_reducible rfl
        simp only [List.setIfInBounds_toArray, List.set_cons_zero, List.set_cons_succ]
        refine take_op (i := 9) (d := 32) (v := ?_) rfl rfl (by kernel_rfl) (by kernel_rfl) (by kernel_rfl) (fun _ _ _ h => h) (Or.inl ⟨by rfl, ?hy9u79⟩) hHeld ?rest9u79
        case hy9u79 =>
          intro w' hS'
          go_simp
          try with_reducible rfl
        simp only [List.setIfInBounds_toArray, List.set_cons_zero, List.set_cons_succ]
        refine take_op (i := 10) (d := 33) (v := ?_) rfl rfl (by kernel_rfl) (by kernel_rfl) (by kernel_rfl) (fun _ _ _ h => h) (Or.inl ⟨by rfl, ?hy10u80⟩) hHeld ?rest10u80
        case hy10u80 =>
          intro w' hS'
          go_simp
          try with_reducible rfl
        simp only [List.setIfInBounds_toArray, List.set_cons_zero, List.set_cons_succ]
        refine take_op (i := 11) (d := 34) (v := ?_) rfl rfl (by kernel_rfl) (by kernel_rfl) (by kernel_rfl) (fun _ _ _ h => h) (Or.inl ⟨by rfl, ?hy11u81⟩) hHeld ?rest11u81
        case hy11u81 =>
          intro w' hS'
          (have q0 : w'.cell? ⟨g', o' + m * 3, none⟩ = some (.int .i16 x.1) := cell_below hS' (HC.out 0 _ rfl)); go_simp
          try with_reducible rfl
        simp only [List.setIfInBounds_toArray, List.set_cons_zero, List.set_cons_succ]
        refine take_op (i := 12) (d := 35) (v := ?_) rfl rfl (by kernel_rfl) (by kernel_rfl) (by kernel_rfl) (fun _ _ _ h => h) (Or.inl ⟨by rfl, ?hy12u82⟩) hHeld ?rest12u82
        case hy12u82 =>
          intro w' hS'
          go_simp
          try with_reducible rfl
        simp only [List.setIfInBounds_toArray, List.set_cons_zero, List.set_cons_succ]
        refine take_op (i := 13) (d := 36) (v := ?_) rfl rfl (by kernel_rfl) (by kernel_rfl) (by kernel_rfl) (fun _ _ _ h => h) (Or.inl ⟨by rfl, ?hy13u83⟩) hHeld ?rest13u83
        case hy13u83 =>
          intro w' hS'
          go_simp
          try with_reducible rfl
        simp only [List.setIfInBounds_toArray, List.set_cons_zero, List.set_cons_succ]
        refine wpAnyH_ready (rs := [14]) (by kernel_rfl) (by simp) ?_
        refine AllReadyH.cons rfl (fun K hK => ?_) AllReadyH.nil
        go_simp
        refine (HG.out _).mono ?_
        rintro e w1 ⟨rfl, rfl⟩
        refine hK.out _ _ (hHeld) (fun hHeld2 => ?_)
        clear hK K
        replace hHeld := hHeld2
        clear hHeld2
        refine take_op (i := 15) (d := 9) (v := ?_) rfl rfl (by kernel_rfl) (by kernel_rfl) (by kernel_rfl) (fun _ _ _ h => h) (Or.inl ⟨by rfl, ?hy15u84⟩) hHeld ?rest15u84
        case hy15u84 =>
          intro w' hS'
          go_simp
          try with_reducible rfl
        simp only [List.setIfInBounds_toArray, List.set_cons_zero, List.set_cons_succ]
        refine wpAnyH_done (by kernel_rfl) ?_ _
        revert hHeld
        generalize wr.drew = W2
        intro hHeld
        replace H1 := Lib.hid (below_row hHeld H1.out)
        replace HC := Lib.hid (fun j v h => cell_below hHeld (HC.out j v h))
        replace hb := hb.trans (hHeld.mono hb.size)
        clear hHeld
        go_upto_region 6 with (fail)
        refine wp_region_held_drew (S := (fun V => Below W2.heap.size W2 V)) (by kernel_rfl) ((Below.refl _ _).drew) (fun hHeld => ?_)
        refine take_op (i := 0) (d := 38) (v := ?_) rfl rfl (by kernel_rfl) (by kernel_rfl) (by kernel_rfl) (fun _ _ _ h => h) (Or.inl ⟨by rfl, ?hy0u85⟩) hHeld ?rest0u85
        case hy0u85 =>
          intro w' hS'
          go_simp
          try with_reducible rfl
        simp only [List.setIfInBounds_toArray, List.set_cons_zero, List.set_cons_succ]
        refine take_op (i := 1) (d := 39) (v := ?_) rfl rfl (by kernel_rfl) (by kernel_rfl) (by kernel_rfl) (fun _ _ _ h => h) (Or.inl ⟨by rfl, ?hy1u86⟩) hHeld ?rest1u86
        case hy1u86 =>
          intro w' hS'
          go_simp; try rw [hup]
          try with_reducible rfl
        simp only [List.setIfInBounds_toArray, List.set_cons_zero, List.set_cons_succ]
        refine take_op (i := 2) (d := 40) (v := ?_) rfl rfl (by kernel_rfl) (by kernel_rfl) (by kernel_rfl) (fun _ _ _ h => h) (Or.inl ⟨by rfl, ?hy2u87⟩) hHeld ?rest2u87
        case hy2u87 =>
          intro w' hS'
          go_simp
          try with_reducible rfl
        simp only [List.setIfInBounds_toArray, List.set_cons_zero, List.set_cons_succ]
        refine take_op (i := 3) (d := 41) rfl rfl (by kernel_rfl) (by kernel_rfl) (by kernel_rfl) (fun _ _ _ h => h) (Or.inr ⟨by rfl, rfl⟩) hHeld ?_
        simp only [List.setIfInBounds_toArray, List.set_cons_zero, List.set_cons_succ]
        refine take_op (i := 4) (d := 42) rfl rfl (by kernel_rfl) (by kernel_rfl) (by kernel_rfl) (fun _ _ _ h => h) (Or.inr ⟨by rfl, rfl⟩) hHeld ?_
        simp only [List.setIfInBounds_toArray, List.set_cons_zero, List.set_cons_succ]
        refine take_op (i := 5) (d := 43) rfl rfl (by kernel_rfl) (by kernel_rfl) (by kernel_rfl) (fun _ _ _ h => h) (Or.inr ⟨by rfl, rfl⟩) hHeld ?_
        simp only [List.setIfInBounds_toArray, List.set_cons_zero, List.set_cons_succ]
        refine take_op (i := 6) (d := 44) rfl rfl (by kernel_rfl) (by kernel_rfl) (by kernel_rfl) (fun _ _ _ h => h) (Or.inr ⟨by rfl, rfl⟩) hHeld ?_
        simp only [List.setIfInBounds_toArray, List.set_cons_zero, List.set_cons_succ]
        refine take_op (i := 7) (d := 45) rfl rfl (by kernel_rfl) (by kernel_rfl) (by kernel_rfl) (fun _ _ _ h => h) (Or.inr ⟨by rfl, rfl⟩) hHeld ?_
        simp only [List.setIfInBounds_toArray, List.set_cons_zero, List.set_cons_succ]
        refine take_op (i := 8) (d := 46) rfl rfl (by kernel_rfl) (by kernel_rfl) (by kernel_rfl) (fun _ _ _ h => h) (Or.inr ⟨by rfl, rfl⟩) hHeld ?_
        simp only [List.setIfInBounds_toArray, List.set_cons_zero, List.set_cons_succ]
        refine take_op (i := 9) (d := 47) rfl rfl (by kernel_rfl) (by kernel_rfl) (by kernel_rfl) (fun _ _ _ h => h) (Or.inr ⟨by rfl, rfl⟩) hHeld ?_
        simp only [List.setIfInBounds_toArray, List.set_cons_zero, List.set_cons_succ]
        refine take_op (i := 10) (d := 48) rfl rfl (by kernel_rfl) (by kernel_rfl) (by kernel_rfl) (fun _ _ _ h => h) (Or.inr ⟨by rfl, rfl⟩) hHeld ?_
        simp only [List.setIfInBounds_toArray, List.set_cons_zero, List.set_cons_succ]
        refine take_op (i := 11) (d := 49) (v := ?_) rfl rfl (by kernel_rfl) (by kernel_rfl) (by kernel_rfl) (fun _ _ _ h => h) (Or.inl ⟨by rfl, ?hy11u88⟩) hHeld ?rest11u88
        case hy11u88 =>
          intro w' hS'
          go_simp
          try with_reducible rfl
        simp only [List.setIfInBounds_toArray, List.set_cons_zero, List.set_cons_succ]
        refine take_op (i := 12) (d := 50) (v := ?_) rfl rfl (by kernel_rfl) (by kernel_rfl) (by kernel_rfl) (fun _ _ _ h => h) (Or.inl ⟨by rfl, ?hy12u89⟩) hHeld ?rest12u89
        case hy12u89 =>
          intro w' hS'
          go_simp
          try with_reducible rfl
        simp only [List.setIfInBounds_toArray, List.set_cons_zero, List.set_cons_succ]
        refine take_op (i := 13) (d := 51) rfl rfl (by kernel_rfl) (by kernel_rfl) (by kernel_rfl) (fun _ _ _ h => h) (Or.inr ⟨by rfl, rfl⟩) hHeld ?_
        simp only [List.setIfInBounds_toArray, List.set_cons_zero, List.set_cons_succ]
        refine take_op (i := 14) (d := 52) rfl rfl (by kernel_rfl) (by kernel_rfl) (by kernel_rfl) (fun _ _ _ h => h) (Or.inr ⟨by rfl, rfl⟩) hHeld ?_
        simp only [List.setIfInBounds_toArray, List.set_cons_zero, List.set_cons_succ]
        refine take_op (i := 15) (d := 53) rfl rfl (by kernel_rfl) (by kernel_rfl) (by kernel_rfl) (fun _ _ _ h => h) (Or.inr ⟨by rfl, rfl⟩) hHeld ?_
        simp only [List.setIfInBounds_toArray, List.set_cons_zero, List.set_cons_succ]
        refine take_op (i := 16) (d := 54) rfl rfl (by kernel_rfl) (by kernel_rfl) (by kernel_rfl) (fun _ _ _ h => h) (Or.inr ⟨by rfl, rfl⟩) hHeld ?_
        simp only [List.setIfInBounds_toArray, List.set_cons_zero, List.set_cons_succ]
        refine take_op (i := 17) (d := 55) rfl rfl (by kernel_rfl) (by kernel_rfl) (by kernel_rfl) (fun _ _ _ h => h) (Or.inr ⟨by rfl, rfl⟩) hHeld ?_
        simp only [List.setIfInBounds_toArray, List.set_cons_zero, List.set_cons_succ]
        refine take_op (i := 18) (d := 56) rfl rfl (by kernel_rfl) (by kernel_rfl) (by kernel_rfl) (fun _ _ _ h => h) (Or.inr ⟨by rfl, rfl⟩) hHeld ?_
        simp only [List.setIfInBounds_toArray, List.set_cons_zero, List.set_cons_succ]
        refine take_op (i := 19) (d := 57) rfl rfl (by kernel_rfl) (by kernel_rfl) (by kernel_rfl) (fun _ _ _ h => h) (Or.inr ⟨by rfl, rfl⟩) hHeld ?_
        simp only [List.setIfInBounds_toArray, List.set_cons_zero, List.set_cons_succ]
        refine take_op (i := 20) (d := 58) rfl rfl (by kernel_rfl) (by kernel_rfl) (by kernel_rfl) (fun _ _ _ h => h) (Or.inr ⟨by rfl, rfl⟩) hHeld ?_
        simp only [List.setIfInBounds_toArray, List.set_cons_zero, List.set_cons_succ]
        refine take_op (i := 21) (d := 59) rfl rfl (by kernel_rfl) (by kernel_rfl) (by kernel_rfl) (fun _ _ _ h => h) (Or.inr ⟨by rfl, rfl⟩) hHeld ?_
        simp only [List.setIfInBounds_toArray, List.set_cons_zero, List.set_cons_succ]
        refine take_op (i := 22) (d := 60) rfl rfl (by kernel_rfl) (by kernel_rfl) (by kernel_rfl) (fun _ _ _ h => h) (Or.inr ⟨by rfl, rfl⟩) hHeld ?_
        simp only [List.setIfInBounds_toArray, List.set_cons_zero, List.set_cons_succ]
        refine take_op (i := 23) (d := 61) rfl rfl (by kernel_rfl) (by kernel_rfl) (by kernel_rfl) (fun _ _ _ h => h) (Or.inr ⟨by rfl, rfl⟩) hHeld ?_
        simp only [List.setIfInBounds_toArray, List.set_cons_zero, List.set_cons_succ]
        refine take_op (i := 24) (d := 62) (v := ?_) rfl rfl (by kernel_rfl) (by kernel_rfl) (by kernel_rfl) (fun _ _ _ h => h) (Or.inl ⟨by rfl, ?hy24u90⟩) hHeld ?rest24u90
        case hy24u90 =>
          intro w' hS'
          go_simp
          try with_reducible rfl
        simp only [List.setIfInBounds_toArray, List.set_cons_zero, List.set_cons_succ]
        refine wpAnyH_done (by kernel_rfl) ?_ _
        revert hHeld
        generalize W2.drew = W3
        intro hHeld
        replace H1 := Lib.hid (below_row hHeld H1.out)
        replace HC := Lib.hid (fun j v h => cell_below hHeld (HC.out j v h))
        replace hb := hb.trans (hHeld.mono hb.size)
        clear hHeld
        go_wp2
        go_roundw
        case rel => (first | exact ⟨m + 1, by omega, by go_num, hb, by rw [HT.out, List.any_append, HA.out]; simp [EF.out]⟩ | ((iterate 44 apply Exists.intro); refine ⟨?_, rfl⟩; exact ⟨m + 1, by omega, by go_num, hb, by rw [HT.out, List.any_append, HA.out]; simp [EF.out]⟩))
        case measure => simp [intOf]; omega
      · have EF := Lib.hid ef
        clear ef
        go_wp2
        refine wp_region_held_drew (S := (fun V => Below wr.heap.size wr V)) (by kernel_rfl) ((Below.refl _ _).drew) (fun hHeld => ?_)
        refine take_op (i := 0) (d := 23) (v := ?_) rfl rfl (by kernel_rfl) (by kernel_rfl) (by kernel_rfl) (fun _ _ _ h => h) (Or.inl ⟨by rfl, ?hy0u91⟩) hHeld ?rest0u91
        case hy0u91 =>
          intro w' hS'
          go_simp
          try with_reducible rfl
        simp only [List.setIfInBounds_toArray, List.set_cons_zero, List.set_cons_succ]
        refine take_op (i := 1) (d := 24) (v := ?_) rfl rfl (by kernel_rfl) (by kernel_rfl) (by kernel_rfl) (fun _ _ _ h => h) (Or.inl ⟨by rfl, ?hy1u92⟩) hHeld ?rest1u92
        case hy1u92 =>
          intro w' hS'
          go_simp
          try with_reducible rfl
        simp only [List.setIfInBounds_toArray, List.set_cons_zero, List.set_cons_succ]
        refine take_op (i := 2) (d := 25) (v := ?_) rfl rfl (by kernel_rfl) (by kernel_rfl) (by kernel_rfl) (fun _ _ _ h => h) (Or.inl ⟨by rfl, ?hy2u93⟩) hHeld ?rest2u93
        case hy2u93 =>
          intro w' hS'
          go_simp
          try with_reducible rfl
        simp only [List.setIfInBounds_toArray, List.set_cons_zero, List.set_cons_succ]
        refine take_op (i := 3) (d := 26) (v := ?_) rfl rfl (by kernel_rfl) (by kernel_rfl) (by kernel_rfl) (fun _ _ _ h => h) (Or.inl ⟨by rfl, ?hy3u94⟩) hHeld ?rest3u94
        case hy3u94 =>
          intro w' hS'
          go_simp
          try with_reducible rfl
        simp only [List.setIfInBounds_toArray, List.set_cons_zero, List.set_cons_succ]
        refine take_op (i := 4) (d := 27) (v := ?_) rfl rfl (by kernel_rfl) (by kernel_rfl) (by kernel_rfl) (fun _ _ _ h => h) (Or.inl ⟨by rfl, ?hy4u95⟩) hHeld ?rest4u95
        case hy4u95 =>
          intro w' hS'
          go_simp
          try with_reducible rfl
        simp only [List.setIfInBounds_toArray, List.set_cons_zero, List.set_cons_succ]
        refine take_op (i := 5) (d := 28) (v := ?_) rfl rfl (by kernel_rfl) (by kernel_rfl) (by kernel_rfl) (fun _ _ _ h => h) (Or.inl ⟨by rfl, ?hy5u96⟩) hHeld ?rest5u96
        case hy5u96 =>
          intro w' hS'
          (have q0 : w'.cell? ⟨g, 24 + k, none⟩ = some (.int .i16 v) := by (have q := cell_sun_t (below_row hS' H1.out) Hh.out Ht.out k hk; rw [Hv.out] at q; exact q)); go_simp
          try with_reducible rfl
        simp only [List.setIfInBounds_toArray, List.set_cons_zero, List.set_cons_succ]
        refine take_op (i := 6) (d := 29) (v := ?_) rfl rfl (by kernel_rfl) (by kernel_rfl) (by kernel_rfl) (fun _ _ _ h => h) (Or.inl ⟨by rfl, ?hy6u97⟩) hHeld ?rest6u97
        case hy6u97 =>
          intro w' hS'
          go_simp
          try with_reducible rfl
        simp only [List.setIfInBounds_toArray, List.set_cons_zero, List.set_cons_succ]
        refine take_op (i := 7) (d := 30) (v := ?_) rfl rfl (by kernel_rfl) (by kernel_rfl) (by kernel_rfl) (fun _ _ _ h => h) (Or.inl ⟨by rfl, ?hy7u98⟩) hHeld ?rest7u98
        case hy7u98 =>
          intro w' hS'
          go_simp
          try with_reducible rfl
        simp only [List.setIfInBounds_toArray, List.set_cons_zero, List.set_cons_succ]
        refine take_op (i := 8) (d := 31) (v := ?_) rfl rfl (by kernel_rfl) (by kernel_rfl) (by kernel_rfl) (fun _ _ _ h => h) (Or.inl ⟨by rfl, ?hy8u99⟩) hHeld ?rest8u99
        case hy8u99 =>
          intro w' hS'
          go_simp
          try with_reducible rfl
        simp only [List.setIfInBounds_toArray, List.set_cons_zero, List.set_cons_succ]
        refine take_op (i := 9) (d := 32) (v := ?_) rfl rfl (by kernel_rfl) (by kernel_rfl) (by kernel_rfl) (fun _ _ _ h => h) (Or.inl ⟨by rfl, ?hy9u100⟩) hHeld ?rest9u100
        case hy9u100 =>
          intro w' hS'
          go_simp
          try with_reducible rfl
        simp only [List.setIfInBounds_toArray, List.set_cons_zero, List.set_cons_succ]
        refine take_op (i := 10) (d := 33) (v := ?_) rfl rfl (by kernel_rfl) (by kernel_rfl) (by kernel_rfl) (fun _ _ _ h => h) (Or.inl ⟨by rfl, ?hy10u101⟩) hHeld ?rest10u101
        case hy10u101 =>
          intro w' hS'
          go_simp
          try with_reducible rfl
        simp only [List.setIfInBounds_toArray, List.set_cons_zero, List.set_cons_succ]
        refine take_op (i := 11) (d := 34) (v := ?_) rfl rfl (by kernel_rfl) (by kernel_rfl) (by kernel_rfl) (fun _ _ _ h => h) (Or.inl ⟨by rfl, ?hy11u102⟩) hHeld ?rest11u102
        case hy11u102 =>
          intro w' hS'
          (have q0 : w'.cell? ⟨g', o' + m * 3, none⟩ = some (.int .i16 x.1) := cell_below hS' (HC.out 0 _ rfl)); go_simp
          try with_reducible rfl
        simp only [List.setIfInBounds_toArray, List.set_cons_zero, List.set_cons_succ]
        refine take_op (i := 12) (d := 35) (v := ?_) rfl rfl (by kernel_rfl) (by kernel_rfl) (by kernel_rfl) (fun _ _ _ h => h) (Or.inl ⟨by rfl, ?hy12u103⟩) hHeld ?rest12u103
        case hy12u103 =>
          intro w' hS'
          go_simp
          try with_reducible rfl
        simp only [List.setIfInBounds_toArray, List.set_cons_zero, List.set_cons_succ]
        refine take_op (i := 13) (d := 36) (v := ?_) rfl rfl (by kernel_rfl) (by kernel_rfl) (by kernel_rfl) (fun _ _ _ h => h) (Or.inl ⟨by rfl, ?hy13u104⟩) hHeld ?rest13u104
        case hy13u104 =>
          intro w' hS'
          go_simp
          try with_reducible rfl
        simp only [List.setIfInBounds_toArray, List.set_cons_zero, List.set_cons_succ]
        refine wpAnyH_ready (rs := [14]) (by kernel_rfl) (by simp) ?_
        refine AllReadyH.cons rfl (fun K hK => ?_) AllReadyH.nil
        go_simp
        refine (HG.out _).mono ?_
        rintro e w1 ⟨rfl, rfl⟩
        refine hK.out _ _ (hHeld) (fun hHeld2 => ?_)
        clear hK K
        replace hHeld := hHeld2
        clear hHeld2
        refine take_op (i := 15) (d := 9) (v := ?_) rfl rfl (by kernel_rfl) (by kernel_rfl) (by kernel_rfl) (fun _ _ _ h => h) (Or.inl ⟨by rfl, ?hy15u105⟩) hHeld ?rest15u105
        case hy15u105 =>
          intro w' hS'
          go_simp
          try with_reducible rfl
        simp only [List.setIfInBounds_toArray, List.set_cons_zero, List.set_cons_succ]
        refine wpAnyH_done (by kernel_rfl) ?_ _
        revert hHeld
        generalize wr.drew = W2
        intro hHeld
        replace H1 := Lib.hid (below_row hHeld H1.out)
        replace HC := Lib.hid (fun j v h => cell_below hHeld (HC.out j v h))
        replace hb := hb.trans (hHeld.mono hb.size)
        clear hHeld
        go_upto_region 6 with (fail)
        refine wp_region_held_drew (S := (fun V => Below W2.heap.size W2 V)) (by kernel_rfl) ((Below.refl _ _).drew) (fun hHeld => ?_)
        refine take_op (i := 0) (d := 38) (v := ?_) rfl rfl (by kernel_rfl) (by kernel_rfl) (by kernel_rfl) (fun _ _ _ h => h) (Or.inl ⟨by rfl, ?hy0u106⟩) hHeld ?rest0u106
        case hy0u106 =>
          intro w' hS'
          go_simp
          try with_reducible rfl
        simp only [List.setIfInBounds_toArray, List.set_cons_zero, List.set_cons_succ]
        refine take_op (i := 1) (d := 39) (v := ?_) rfl rfl (by kernel_rfl) (by kernel_rfl) (by kernel_rfl) (fun _ _ _ h => h) (Or.inl ⟨by rfl, ?hy1u107⟩) hHeld ?rest1u107
        case hy1u107 =>
          intro w' hS'
          go_simp; try rw [hup]
          try with_reducible rfl
        simp only [List.setIfInBounds_toArray, List.set_cons_zero, List.set_cons_succ]
        refine take_op (i := 2) (d := 40) (v := ?_) rfl rfl (by kernel_rfl) (by kernel_rfl) (by kernel_rfl) (fun _ _ _ h => h) (Or.inl ⟨by rfl, ?hy2u108⟩) hHeld ?rest2u108
        case hy2u108 =>
          intro w' hS'
          go_simp
          try with_reducible rfl
        simp only [List.setIfInBounds_toArray, List.set_cons_zero, List.set_cons_succ]
        refine take_op (i := 3) (d := 41) (v := ?_) rfl rfl (by kernel_rfl) (by kernel_rfl) (by kernel_rfl) (fun _ _ _ h => h) (Or.inl ⟨by rfl, ?hy3u109⟩) hHeld ?rest3u109
        case hy3u109 =>
          intro w' hS'
          go_simp
          try with_reducible rfl
        simp only [List.setIfInBounds_toArray, List.set_cons_zero, List.set_cons_succ]
        refine take_op (i := 4) (d := 42) (v := ?_) rfl rfl (by kernel_rfl) (by kernel_rfl) (by kernel_rfl) (fun _ _ _ h => h) (Or.inl ⟨by rfl, ?hy4u110⟩) hHeld ?rest4u110
        case hy4u110 =>
          intro w' hS'
          go_simp
          try with_reducible rfl
        simp only [List.setIfInBounds_toArray, List.set_cons_zero, List.set_cons_succ]
        refine take_op (i := 5) (d := 43) (v := ?_) rfl rfl (by kernel_rfl) (by kernel_rfl) (by kernel_rfl) (fun _ _ _ h => h) (Or.inl ⟨by rfl, ?hy5u111⟩) hHeld ?rest5u111
        case hy5u111 =>
          intro w' hS'
          go_simp
          try with_reducible rfl
        simp only [List.setIfInBounds_toArray, List.set_cons_zero, List.set_cons_succ]
        refine take_op (i := 6) (d := 44) (v := ?_) rfl rfl (by kernel_rfl) (by kernel_rfl) (by kernel_rfl) (fun _ _ _ h => h) (Or.inl ⟨by rfl, ?hy6u112⟩) hHeld ?rest6u112
        case hy6u112 =>
          intro w' hS'
          go_simp
          try with_reducible rfl
        simp only [List.setIfInBounds_toArray, List.set_cons_zero, List.set_cons_succ]
        refine take_op (i := 7) (d := 45) (v := ?_) rfl rfl (by kernel_rfl) (by kernel_rfl) (by kernel_rfl) (fun _ _ _ h => h) (Or.inl ⟨by rfl, ?hy7u113⟩) hHeld ?rest7u113
        case hy7u113 =>
          intro w' hS'
          go_simp
          try with_reducible rfl
        simp only [List.setIfInBounds_toArray, List.set_cons_zero, List.set_cons_succ]
        refine take_op (i := 8) (d := 46) (v := ?_) rfl rfl (by kernel_rfl) (by kernel_rfl) (by kernel_rfl) (fun _ _ _ h => h) (Or.inl ⟨by rfl, ?hy8u114⟩) hHeld ?rest8u114
        case hy8u114 =>
          intro w' hS'
          (have q0 : w'.cell? ⟨g', o' + m * 3 + 2, none⟩ = some (.int .i16 x.2.2) := cell_below hS' (HC.out 2 _ rfl)); go_simp
          try with_reducible rfl
        simp only [List.setIfInBounds_toArray, List.set_cons_zero, List.set_cons_succ]
        refine take_op (i := 9) (d := 47) (v := ?_) rfl rfl (by kernel_rfl) (by kernel_rfl) (by kernel_rfl) (fun _ _ _ h => h) (Or.inl ⟨by rfl, ?hy9u115⟩) hHeld ?rest9u115
        case hy9u115 =>
          intro w' hS'
          go_simp
          try with_reducible rfl
        simp only [List.setIfInBounds_toArray, List.set_cons_zero, List.set_cons_succ]
        refine take_op (i := 10) (d := 48) (v := ?_) rfl rfl (by kernel_rfl) (by kernel_rfl) (by kernel_rfl) (fun _ _ _ h => h) (Or.inl ⟨by rfl, ?hy10u116⟩) hHeld ?rest10u116
        case hy10u116 =>
          intro w' hS'
          go_simp; try rw [hd]
          try with_reducible rfl
        simp only [List.setIfInBounds_toArray, List.set_cons_zero, List.set_cons_succ]
        refine take_op (i := 11) (d := 49) (v := ?_) rfl rfl (by kernel_rfl) (by kernel_rfl) (by kernel_rfl) (fun _ _ _ h => h) (Or.inl ⟨by rfl, ?hy11u117⟩) hHeld ?rest11u117
        case hy11u117 =>
          intro w' hS'
          go_simp
          try with_reducible rfl
        simp only [List.setIfInBounds_toArray, List.set_cons_zero, List.set_cons_succ]
        refine take_op (i := 12) (d := 50) (v := ?_) rfl rfl (by kernel_rfl) (by kernel_rfl) (by kernel_rfl) (fun _ _ _ h => h) (Or.inl ⟨by rfl, ?hy12u118⟩) hHeld ?rest12u118
        case hy12u118 =>
          intro w' hS'
          go_simp
          try with_reducible rfl
        simp only [List.setIfInBounds_toArray, List.set_cons_zero, List.set_cons_succ]
        refine take_op (i := 13) (d := 51) rfl rfl (by kernel_rfl) (by kernel_rfl) (by kernel_rfl) (fun _ _ _ h => h) (Or.inr ⟨by rfl, rfl⟩) hHeld ?_
        simp only [List.setIfInBounds_toArray, List.set_cons_zero, List.set_cons_succ]
        refine take_op (i := 14) (d := 52) rfl rfl (by kernel_rfl) (by kernel_rfl) (by kernel_rfl) (fun _ _ _ h => h) (Or.inr ⟨by rfl, rfl⟩) hHeld ?_
        simp only [List.setIfInBounds_toArray, List.set_cons_zero, List.set_cons_succ]
        refine take_op (i := 15) (d := 53) rfl rfl (by kernel_rfl) (by kernel_rfl) (by kernel_rfl) (fun _ _ _ h => h) (Or.inr ⟨by rfl, rfl⟩) hHeld ?_
        simp only [List.setIfInBounds_toArray, List.set_cons_zero, List.set_cons_succ]
        refine take_op (i := 16) (d := 54) rfl rfl (by kernel_rfl) (by kernel_rfl) (by kernel_rfl) (fun _ _ _ h => h) (Or.inr ⟨by rfl, rfl⟩) hHeld ?_
        simp only [List.setIfInBounds_toArray, List.set_cons_zero, List.set_cons_succ]
        refine take_op (i := 17) (d := 55) rfl rfl (by kernel_rfl) (by kernel_rfl) (by kernel_rfl) (fun _ _ _ h => h) (Or.inr ⟨by rfl, rfl⟩) hHeld ?_
        simp only [List.setIfInBounds_toArray, List.set_cons_zero, List.set_cons_succ]
        refine take_op (i := 18) (d := 56) rfl rfl (by kernel_rfl) (by kernel_rfl) (by kernel_rfl) (fun _ _ _ h => h) (Or.inr ⟨by rfl, rfl⟩) hHeld ?_
        simp only [List.setIfInBounds_toArray, List.set_cons_zero, List.set_cons_succ]
        refine take_op (i := 19) (d := 57) rfl rfl (by kernel_rfl) (by kernel_rfl) (by kernel_rfl) (fun _ _ _ h => h) (Or.inr ⟨by rfl, rfl⟩) hHeld ?_
        simp only [List.setIfInBounds_toArray, List.set_cons_zero, List.set_cons_succ]
        refine take_op (i := 20) (d := 58) rfl rfl (by kernel_rfl) (by kernel_rfl) (by kernel_rfl) (fun _ _ _ h => h) (Or.inr ⟨by rfl, rfl⟩) hHeld ?_
        simp only [List.setIfInBounds_toArray, List.set_cons_zero, List.set_cons_succ]
        refine take_op (i := 21) (d := 59) rfl rfl (by kernel_rfl) (by kernel_rfl) (by kernel_rfl) (fun _ _ _ h => h) (Or.inr ⟨by rfl, rfl⟩) hHeld ?_
        simp only [List.setIfInBounds_toArray, List.set_cons_zero, List.set_cons_succ]
        refine take_op (i := 22) (d := 60) rfl rfl (by kernel_rfl) (by kernel_rfl) (by kernel_rfl) (fun _ _ _ h => h) (Or.inr ⟨by rfl, rfl⟩) hHeld ?_
        simp only [List.setIfInBounds_toArray, List.set_cons_zero, List.set_cons_succ]
        refine take_op (i := 23) (d := 61) rfl rfl (by kernel_rfl) (by kernel_rfl) (by kernel_rfl) (fun _ _ _ h => h) (Or.inr ⟨by rfl, rfl⟩) hHeld ?_
        simp only [List.setIfInBounds_toArray, List.set_cons_zero, List.set_cons_succ]
        refine take_op (i := 24) (d := 62) (v := ?_) rfl rfl (by kernel_rfl) (by kernel_rfl) (by kernel_rfl) (fun _ _ _ h => h) (Or.inl ⟨by rfl, ?hy24u119⟩) hHeld ?rest24u119
        case hy24u119 =>
          intro w' hS'
          go_simp
          try with_reducible rfl
        simp only [List.setIfInBounds_toArray, List.set_cons_zero, List.set_cons_succ]
        refine wpAnyH_done (by kernel_rfl) ?_ _
        revert hHeld
        generalize W2.drew = W3
        intro hHeld
        replace H1 := Lib.hid (below_row hHeld H1.out)
        replace HC := Lib.hid (fun j v h => cell_below hHeld (HC.out j v h))
        replace hb := hb.trans (hHeld.mono hb.size)
        clear hHeld
        go_wp2
        go_roundw
        case rel => (first | exact ⟨m + 1, by omega, by go_num, hb, by rw [HT.out, List.any_append, HA.out]; simp [EF.out]⟩ | ((iterate 44 apply Exists.intro); refine ⟨?_, rfl⟩; exact ⟨m + 1, by omega, by go_num, hb, by rw [HT.out, List.any_append, HA.out]; simp [EF.out]⟩))
        case measure => simp [intOf]; omega
      · cases hpx : p x with
        | false =>
          rw [hpx] at hdw
          have EF := Lib.hid hpx
          clear hpx
          go_wp2
          refine wp_region_held_drew (S := (fun V => Below wr.heap.size wr V)) (by kernel_rfl) ((Below.refl _ _).drew) (fun hHeld => ?_)
          refine take_op (i := 0) (d := 23) (v := ?_) rfl rfl (by kernel_rfl) (by kernel_rfl) (by kernel_rfl) (fun _ _ _ h => h) (Or.inl ⟨by rfl, ?hy0u120⟩) hHeld ?rest0u120
          case hy0u120 =>
            intro w' hS'
            go_simp
            try with_reducible rfl
          simp only [List.setIfInBounds_toArray, List.set_cons_zero, List.set_cons_succ]
          refine take_op (i := 1) (d := 24) (v := ?_) rfl rfl (by kernel_rfl) (by kernel_rfl) (by kernel_rfl) (fun _ _ _ h => h) (Or.inl ⟨by rfl, ?hy1u121⟩) hHeld ?rest1u121
          case hy1u121 =>
            intro w' hS'
            go_simp
            try with_reducible rfl
          simp only [List.setIfInBounds_toArray, List.set_cons_zero, List.set_cons_succ]
          refine take_op (i := 2) (d := 25) (v := ?_) rfl rfl (by kernel_rfl) (by kernel_rfl) (by kernel_rfl) (fun _ _ _ h => h) (Or.inl ⟨by rfl, ?hy2u122⟩) hHeld ?rest2u122
          case hy2u122 =>
            intro w' hS'
            go_simp
            try with_reducible rfl
          simp only [List.setIfInBounds_toArray, List.set_cons_zero, List.set_cons_succ]
          refine take_op (i := 3) (d := 26) (v := ?_) rfl rfl (by kernel_rfl) (by kernel_rfl) (by kernel_rfl) (fun _ _ _ h => h) (Or.inl ⟨by rfl, ?hy3u123⟩) hHeld ?rest3u123
          case hy3u123 =>
            intro w' hS'
            go_simp
            try with_reducible rfl
          simp only [List.setIfInBounds_toArray, List.set_cons_zero, List.set_cons_succ]
          refine take_op (i := 4) (d := 27) (v := ?_) rfl rfl (by kernel_rfl) (by kernel_rfl) (by kernel_rfl) (fun _ _ _ h => h) (Or.inl ⟨by rfl, ?hy4u124⟩) hHeld ?rest4u124
          case hy4u124 =>
            intro w' hS'
            go_simp
            try with_reducible rfl
          simp only [List.setIfInBounds_toArray, List.set_cons_zero, List.set_cons_succ]
          refine take_op (i := 5) (d := 28) (v := ?_) rfl rfl (by kernel_rfl) (by kernel_rfl) (by kernel_rfl) (fun _ _ _ h => h) (Or.inl ⟨by rfl, ?hy5u125⟩) hHeld ?rest5u125
          case hy5u125 =>
            intro w' hS'
            (have q0 : w'.cell? ⟨g, 24 + k, none⟩ = some (.int .i16 v) := by (have q := cell_sun_t (below_row hS' H1.out) Hh.out Ht.out k hk; rw [Hv.out] at q; exact q)); go_simp
            try with_reducible rfl
          simp only [List.setIfInBounds_toArray, List.set_cons_zero, List.set_cons_succ]
          refine take_op (i := 6) (d := 29) (v := ?_) rfl rfl (by kernel_rfl) (by kernel_rfl) (by kernel_rfl) (fun _ _ _ h => h) (Or.inl ⟨by rfl, ?hy6u126⟩) hHeld ?rest6u126
          case hy6u126 =>
            intro w' hS'
            go_simp
            try with_reducible rfl
          simp only [List.setIfInBounds_toArray, List.set_cons_zero, List.set_cons_succ]
          refine take_op (i := 7) (d := 30) (v := ?_) rfl rfl (by kernel_rfl) (by kernel_rfl) (by kernel_rfl) (fun _ _ _ h => h) (Or.inl ⟨by rfl, ?hy7u127⟩) hHeld ?rest7u127
          case hy7u127 =>
            intro w' hS'
            go_simp
            try with_reducible rfl
          simp only [List.setIfInBounds_toArray, List.set_cons_zero, List.set_cons_succ]
          refine take_op (i := 8) (d := 31) (v := ?_) rfl rfl (by kernel_rfl) (by kernel_rfl) (by kernel_rfl) (fun _ _ _ h => h) (Or.inl ⟨by rfl, ?hy8u128⟩) hHeld ?rest8u128
          case hy8u128 =>
            intro w' hS'
            go_simp
            try with_reducible rfl
          simp only [List.setIfInBounds_toArray, List.set_cons_zero, List.set_cons_succ]
          refine take_op (i := 9) (d := 32) (v := ?_) rfl rfl (by kernel_rfl) (by kernel_rfl) (by kernel_rfl) (fun _ _ _ h => h) (Or.inl ⟨by rfl, ?hy9u129⟩) hHeld ?rest9u129
          case hy9u129 =>
            intro w' hS'
            go_simp
            try with_reducible rfl
          simp only [List.setIfInBounds_toArray, List.set_cons_zero, List.set_cons_succ]
          refine take_op (i := 10) (d := 33) (v := ?_) rfl rfl (by kernel_rfl) (by kernel_rfl) (by kernel_rfl) (fun _ _ _ h => h) (Or.inl ⟨by rfl, ?hy10u130⟩) hHeld ?rest10u130
          case hy10u130 =>
            intro w' hS'
            go_simp
            try with_reducible rfl
          simp only [List.setIfInBounds_toArray, List.set_cons_zero, List.set_cons_succ]
          refine take_op (i := 11) (d := 34) (v := ?_) rfl rfl (by kernel_rfl) (by kernel_rfl) (by kernel_rfl) (fun _ _ _ h => h) (Or.inl ⟨by rfl, ?hy11u131⟩) hHeld ?rest11u131
          case hy11u131 =>
            intro w' hS'
            (have q0 : w'.cell? ⟨g', o' + m * 3, none⟩ = some (.int .i16 x.1) := cell_below hS' (HC.out 0 _ rfl)); go_simp
            try with_reducible rfl
          simp only [List.setIfInBounds_toArray, List.set_cons_zero, List.set_cons_succ]
          refine take_op (i := 12) (d := 35) (v := ?_) rfl rfl (by kernel_rfl) (by kernel_rfl) (by kernel_rfl) (fun _ _ _ h => h) (Or.inl ⟨by rfl, ?hy12u132⟩) hHeld ?rest12u132
          case hy12u132 =>
            intro w' hS'
            go_simp
            try with_reducible rfl
          simp only [List.setIfInBounds_toArray, List.set_cons_zero, List.set_cons_succ]
          refine take_op (i := 13) (d := 36) (v := ?_) rfl rfl (by kernel_rfl) (by kernel_rfl) (by kernel_rfl) (fun _ _ _ h => h) (Or.inl ⟨by rfl, ?hy13u133⟩) hHeld ?rest13u133
          case hy13u133 =>
            intro w' hS'
            go_simp
            try with_reducible rfl
          simp only [List.setIfInBounds_toArray, List.set_cons_zero, List.set_cons_succ]
          refine wpAnyH_ready (rs := [14]) (by kernel_rfl) (by simp) ?_
          refine AllReadyH.cons rfl (fun K hK => ?_) AllReadyH.nil
          go_simp
          refine (HG.out _).mono ?_
          rintro e w1 ⟨rfl, rfl⟩
          refine hK.out _ _ (hHeld) (fun hHeld2 => ?_)
          clear hK K
          replace hHeld := hHeld2
          clear hHeld2
          refine take_op (i := 15) (d := 9) (v := ?_) rfl rfl (by kernel_rfl) (by kernel_rfl) (by kernel_rfl) (fun _ _ _ h => h) (Or.inl ⟨by rfl, ?hy15u134⟩) hHeld ?rest15u134
          case hy15u134 =>
            intro w' hS'
            go_simp
            try with_reducible rfl
          simp only [List.setIfInBounds_toArray, List.set_cons_zero, List.set_cons_succ]
          refine wpAnyH_done (by kernel_rfl) ?_ _
          revert hHeld
          generalize wr.drew = W2
          intro hHeld
          replace H1 := Lib.hid (below_row hHeld H1.out)
          replace HC := Lib.hid (fun j v h => cell_below hHeld (HC.out j v h))
          replace hb := hb.trans (hHeld.mono hb.size)
          clear hHeld
          go_upto_region 6 with (fail)
          refine wp_region_held_drew (S := (fun V => Below W2.heap.size W2 V)) (by kernel_rfl) ((Below.refl _ _).drew) (fun hHeld => ?_)
          refine take_op (i := 0) (d := 38) (v := ?_) rfl rfl (by kernel_rfl) (by kernel_rfl) (by kernel_rfl) (fun _ _ _ h => h) (Or.inl ⟨by rfl, ?hy0u135⟩) hHeld ?rest0u135
          case hy0u135 =>
            intro w' hS'
            go_simp
            try with_reducible rfl
          simp only [List.setIfInBounds_toArray, List.set_cons_zero, List.set_cons_succ]
          refine take_op (i := 1) (d := 39) (v := ?_) rfl rfl (by kernel_rfl) (by kernel_rfl) (by kernel_rfl) (fun _ _ _ h => h) (Or.inl ⟨by rfl, ?hy1u136⟩) hHeld ?rest1u136
          case hy1u136 =>
            intro w' hS'
            go_simp; try rw [hup]
            try with_reducible rfl
          simp only [List.setIfInBounds_toArray, List.set_cons_zero, List.set_cons_succ]
          refine take_op (i := 2) (d := 40) (v := ?_) rfl rfl (by kernel_rfl) (by kernel_rfl) (by kernel_rfl) (fun _ _ _ h => h) (Or.inl ⟨by rfl, ?hy2u137⟩) hHeld ?rest2u137
          case hy2u137 =>
            intro w' hS'
            go_simp
            try with_reducible rfl
          simp only [List.setIfInBounds_toArray, List.set_cons_zero, List.set_cons_succ]
          refine take_op (i := 3) (d := 41) (v := ?_) rfl rfl (by kernel_rfl) (by kernel_rfl) (by kernel_rfl) (fun _ _ _ h => h) (Or.inl ⟨by rfl, ?hy3u138⟩) hHeld ?rest3u138
          case hy3u138 =>
            intro w' hS'
            go_simp
            try with_reducible rfl
          simp only [List.setIfInBounds_toArray, List.set_cons_zero, List.set_cons_succ]
          refine take_op (i := 4) (d := 42) (v := ?_) rfl rfl (by kernel_rfl) (by kernel_rfl) (by kernel_rfl) (fun _ _ _ h => h) (Or.inl ⟨by rfl, ?hy4u139⟩) hHeld ?rest4u139
          case hy4u139 =>
            intro w' hS'
            go_simp
            try with_reducible rfl
          simp only [List.setIfInBounds_toArray, List.set_cons_zero, List.set_cons_succ]
          refine take_op (i := 5) (d := 43) (v := ?_) rfl rfl (by kernel_rfl) (by kernel_rfl) (by kernel_rfl) (fun _ _ _ h => h) (Or.inl ⟨by rfl, ?hy5u140⟩) hHeld ?rest5u140
          case hy5u140 =>
            intro w' hS'
            go_simp
            try with_reducible rfl
          simp only [List.setIfInBounds_toArray, List.set_cons_zero, List.set_cons_succ]
          refine take_op (i := 6) (d := 44) (v := ?_) rfl rfl (by kernel_rfl) (by kernel_rfl) (by kernel_rfl) (fun _ _ _ h => h) (Or.inl ⟨by rfl, ?hy6u141⟩) hHeld ?rest6u141
          case hy6u141 =>
            intro w' hS'
            go_simp
            try with_reducible rfl
          simp only [List.setIfInBounds_toArray, List.set_cons_zero, List.set_cons_succ]
          refine take_op (i := 7) (d := 45) (v := ?_) rfl rfl (by kernel_rfl) (by kernel_rfl) (by kernel_rfl) (fun _ _ _ h => h) (Or.inl ⟨by rfl, ?hy7u142⟩) hHeld ?rest7u142
          case hy7u142 =>
            intro w' hS'
            go_simp
            try with_reducible rfl
          simp only [List.setIfInBounds_toArray, List.set_cons_zero, List.set_cons_succ]
          refine take_op (i := 8) (d := 46) (v := ?_) rfl rfl (by kernel_rfl) (by kernel_rfl) (by kernel_rfl) (fun _ _ _ h => h) (Or.inl ⟨by rfl, ?hy8u143⟩) hHeld ?rest8u143
          case hy8u143 =>
            intro w' hS'
            (have q0 : w'.cell? ⟨g', o' + m * 3 + 2, none⟩ = some (.int .i16 x.2.2) := cell_below hS' (HC.out 2 _ rfl)); go_simp
            try with_reducible rfl
          simp only [List.setIfInBounds_toArray, List.set_cons_zero, List.set_cons_succ]
          refine take_op (i := 9) (d := 47) (v := ?_) rfl rfl (by kernel_rfl) (by kernel_rfl) (by kernel_rfl) (fun _ _ _ h => h) (Or.inl ⟨by rfl, ?hy9u144⟩) hHeld ?rest9u144
          case hy9u144 =>
            intro w' hS'
            go_simp
            try with_reducible rfl
          simp only [List.setIfInBounds_toArray, List.set_cons_zero, List.set_cons_succ]
          refine take_op (i := 10) (d := 48) (v := ?_) rfl rfl (by kernel_rfl) (by kernel_rfl) (by kernel_rfl) (fun _ _ _ h => h) (Or.inl ⟨by rfl, ?hy10u145⟩) hHeld ?rest10u145
          case hy10u145 =>
            intro w' hS'
            go_simp; try rw [hd]
            try with_reducible rfl
          simp only [List.setIfInBounds_toArray, List.set_cons_zero, List.set_cons_succ]
          refine take_op (i := 11) (d := 49) (v := ?_) rfl rfl (by kernel_rfl) (by kernel_rfl) (by kernel_rfl) (fun _ _ _ h => h) (Or.inl ⟨by rfl, ?hy11u146⟩) hHeld ?rest11u146
          case hy11u146 =>
            intro w' hS'
            go_simp
            try with_reducible rfl
          simp only [List.setIfInBounds_toArray, List.set_cons_zero, List.set_cons_succ]
          refine take_op (i := 12) (d := 50) (v := ?_) rfl rfl (by kernel_rfl) (by kernel_rfl) (by kernel_rfl) (fun _ _ _ h => h) (Or.inl ⟨by rfl, ?hy12u147⟩) hHeld ?rest12u147
          case hy12u147 =>
            intro w' hS'
            go_simp
            try with_reducible rfl
          simp only [List.setIfInBounds_toArray, List.set_cons_zero, List.set_cons_succ]
          refine take_op (i := 13) (d := 51) (v := ?_) rfl rfl (by kernel_rfl) (by kernel_rfl) (by kernel_rfl) (fun _ _ _ h => h) (Or.inl ⟨by rfl, ?hy13u148⟩) hHeld ?rest13u148
          case hy13u148 =>
            intro w' hS'
            go_simp
            try with_reducible rfl
          simp only [List.setIfInBounds_toArray, List.set_cons_zero, List.set_cons_succ]
          refine take_op (i := 14) (d := 52) (v := ?_) rfl rfl (by kernel_rfl) (by kernel_rfl) (by kernel_rfl) (fun _ _ _ h => h) (Or.inl ⟨by rfl, ?hy14u149⟩) hHeld ?rest14u149
          case hy14u149 =>
            intro w' hS'
            go_simp
            try with_reducible rfl
          simp only [List.setIfInBounds_toArray, List.set_cons_zero, List.set_cons_succ]
          refine take_op (i := 15) (d := 53) (v := ?_) rfl rfl (by kernel_rfl) (by kernel_rfl) (by kernel_rfl) (fun _ _ _ h => h) (Or.inl ⟨by rfl, ?hy15u150⟩) hHeld ?rest15u150
          case hy15u150 =>
            intro w' hS'
            go_simp
            try with_reducible rfl
          simp only [List.setIfInBounds_toArray, List.set_cons_zero, List.set_cons_succ]
          refine take_op (i := 17) (d := 55) (v := ?_) rfl rfl (by kernel_rfl) (by kernel_rfl) (by kernel_rfl) (fun _ _ _ h => h) (Or.inl ⟨by rfl, ?hy17u151⟩) hHeld ?rest17u151
          case hy17u151 =>
            intro w' hS'
            go_simp
            try with_reducible rfl
          simp only [List.setIfInBounds_toArray, List.set_cons_zero, List.set_cons_succ]
          refine take_op (i := 18) (d := 56) (v := ?_) rfl rfl (by kernel_rfl) (by kernel_rfl) (by kernel_rfl) (fun _ _ _ h => h) (Or.inl ⟨by rfl, ?hy18u152⟩) hHeld ?rest18u152
          case hy18u152 =>
            intro w' hS'
            go_simp
            try with_reducible rfl
          simp only [List.setIfInBounds_toArray, List.set_cons_zero, List.set_cons_succ]
          refine take_op (i := 19) (d := 57) (v := ?_) rfl rfl (by kernel_rfl) (by kernel_rfl) (by kernel_rfl) (fun _ _ _ h => h) (Or.inl ⟨by rfl, ?hy19u153⟩) hHeld ?rest19u153
          case hy19u153 =>
            intro w' hS'
            go_simp
            try with_reducible rfl
          simp only [List.setIfInBounds_toArray, List.set_cons_zero, List.set_cons_succ]
          refine take_op (i := 20) (d := 58) (v := ?_) rfl rfl (by kernel_rfl) (by kernel_rfl) (by kernel_rfl) (fun _ _ _ h => h) (Or.inl ⟨by rfl, ?hy20u154⟩) hHeld ?rest20u154
          case hy20u154 =>
            intro w' hS'
            go_simp
            try with_reducible rfl
          simp only [List.setIfInBounds_toArray, List.set_cons_zero, List.set_cons_succ]
          refine take_op (i := 21) (d := 59) (v := ?_) rfl rfl (by kernel_rfl) (by kernel_rfl) (by kernel_rfl) (fun _ _ _ h => h) (Or.inl ⟨by rfl, ?hy21u155⟩) hHeld ?rest21u155
          case hy21u155 =>
            intro w' hS'
            (have q0 : w'.cell? ⟨g', o' + m * 3 + 1, none⟩ = some (.int .i16 x.2.1) := cell_below hS' (HC.out 1 _ rfl)); go_simp
            try with_reducible rfl
          simp only [List.setIfInBounds_toArray, List.set_cons_zero, List.set_cons_succ]
          refine take_op (i := 22) (d := 60) (v := ?_) rfl rfl (by kernel_rfl) (by kernel_rfl) (by kernel_rfl) (fun _ _ _ h => h) (Or.inl ⟨by rfl, ?hy22u156⟩) hHeld ?rest22u156
          case hy22u156 =>
            intro w' hS'
            go_simp
            try with_reducible rfl
          simp only [List.setIfInBounds_toArray, List.set_cons_zero, List.set_cons_succ]
          refine wpAnyH_ready (rs := [16]) (by kernel_rfl) (by simp) ?_
          refine AllReadyH.cons rfl (fun K hK => ?_) AllReadyH.nil
          go_simp
          refine (l00Min_ap _ _).mono ?_
          rintro e w3 ⟨rfl, rfl⟩
          refine hK.out _ _ (hHeld) (fun hHeld2 => ?_)
          clear hK K
          replace hHeld := hHeld2
          clear hHeld2
          refine take_op (i := 23) (d := 61) (v := ?_) rfl rfl (by kernel_rfl) (by kernel_rfl) (by kernel_rfl) (fun _ _ _ h => h) (Or.inl ⟨by rfl, ?hy23u157⟩) hHeld ?rest23u157
          case hy23u157 =>
            intro w' hS'
            go_simp; try rw [hdw]
            try with_reducible rfl
          simp only [List.setIfInBounds_toArray, List.set_cons_zero, List.set_cons_succ]
          refine take_op (i := 24) (d := 62) (v := ?_) rfl rfl (by kernel_rfl) (by kernel_rfl) (by kernel_rfl) (fun _ _ _ h => h) (Or.inl ⟨by rfl, ?hy24u158⟩) hHeld ?rest24u158
          case hy24u158 =>
            intro w' hS'
            go_simp
            try with_reducible rfl
          simp only [List.setIfInBounds_toArray, List.set_cons_zero, List.set_cons_succ]
          refine wpAnyH_done (by kernel_rfl) ?_ _
          revert hHeld
          generalize W2.drew = W4
          intro hHeld
          replace H1 := Lib.hid (below_row hHeld H1.out)
          replace HC := Lib.hid (fun j v h => cell_below hHeld (HC.out j v h))
          replace hb := hb.trans (hHeld.mono hb.size)
          clear hHeld
          go_wp2
          go_roundw
          case rel => (first | exact ⟨m + 1, by omega, by go_num, hb, by rw [HT.out, List.any_append, HA.out]; simp [EF.out]⟩ | ((iterate 44 apply Exists.intro); refine ⟨?_, rfl⟩; exact ⟨m + 1, by omega, by go_num, hb, by rw [HT.out, List.any_append, HA.out]; simp [EF.out]⟩))
          case measure => simp [intOf]; omega
        | true =>
          rw [hpx] at hdw
          have EF := Lib.hid hpx
          clear hpx
          go_wp2
          refine wp_region_held_drew (S := (fun V => Below wr.heap.size wr V)) (by kernel_rfl) ((Below.refl _ _).drew) (fun hHeld => ?_)
          refine take_op (i := 0) (d := 23) (v := ?_) rfl rfl (by kernel_rfl) (by kernel_rfl) (by kernel_rfl) (fun _ _ _ h => h) (Or.inl ⟨by rfl, ?hy0u159⟩) hHeld ?rest0u159
          case hy0u159 =>
            intro w' hS'
            go_simp
            try with_reducible rfl
          simp only [List.setIfInBounds_toArray, List.set_cons_zero, List.set_cons_succ]
          refine take_op (i := 1) (d := 24) (v := ?_) rfl rfl (by kernel_rfl) (by kernel_rfl) (by kernel_rfl) (fun _ _ _ h => h) (Or.inl ⟨by rfl, ?hy1u160⟩) hHeld ?rest1u160
          case hy1u160 =>
            intro w' hS'
            go_simp
            try with_reducible rfl
          simp only [List.setIfInBounds_toArray, List.set_cons_zero, List.set_cons_succ]
          refine take_op (i := 2) (d := 25) (v := ?_) rfl rfl (by kernel_rfl) (by kernel_rfl) (by kernel_rfl) (fun _ _ _ h => h) (Or.inl ⟨by rfl, ?hy2u161⟩) hHeld ?rest2u161
          case hy2u161 =>
            intro w' hS'
            go_simp
            try with_reducible rfl
          simp only [List.setIfInBounds_toArray, List.set_cons_zero, List.set_cons_succ]
          refine take_op (i := 3) (d := 26) (v := ?_) rfl rfl (by kernel_rfl) (by kernel_rfl) (by kernel_rfl) (fun _ _ _ h => h) (Or.inl ⟨by rfl, ?hy3u162⟩) hHeld ?rest3u162
          case hy3u162 =>
            intro w' hS'
            go_simp
            try with_reducible rfl
          simp only [List.setIfInBounds_toArray, List.set_cons_zero, List.set_cons_succ]
          refine take_op (i := 4) (d := 27) (v := ?_) rfl rfl (by kernel_rfl) (by kernel_rfl) (by kernel_rfl) (fun _ _ _ h => h) (Or.inl ⟨by rfl, ?hy4u163⟩) hHeld ?rest4u163
          case hy4u163 =>
            intro w' hS'
            go_simp
            try with_reducible rfl
          simp only [List.setIfInBounds_toArray, List.set_cons_zero, List.set_cons_succ]
          refine take_op (i := 5) (d := 28) (v := ?_) rfl rfl (by kernel_rfl) (by kernel_rfl) (by kernel_rfl) (fun _ _ _ h => h) (Or.inl ⟨by rfl, ?hy5u164⟩) hHeld ?rest5u164
          case hy5u164 =>
            intro w' hS'
            (have q0 : w'.cell? ⟨g, 24 + k, none⟩ = some (.int .i16 v) := by (have q := cell_sun_t (below_row hS' H1.out) Hh.out Ht.out k hk; rw [Hv.out] at q; exact q)); go_simp
            try with_reducible rfl
          simp only [List.setIfInBounds_toArray, List.set_cons_zero, List.set_cons_succ]
          refine take_op (i := 6) (d := 29) (v := ?_) rfl rfl (by kernel_rfl) (by kernel_rfl) (by kernel_rfl) (fun _ _ _ h => h) (Or.inl ⟨by rfl, ?hy6u165⟩) hHeld ?rest6u165
          case hy6u165 =>
            intro w' hS'
            go_simp
            try with_reducible rfl
          simp only [List.setIfInBounds_toArray, List.set_cons_zero, List.set_cons_succ]
          refine take_op (i := 7) (d := 30) (v := ?_) rfl rfl (by kernel_rfl) (by kernel_rfl) (by kernel_rfl) (fun _ _ _ h => h) (Or.inl ⟨by rfl, ?hy7u166⟩) hHeld ?rest7u166
          case hy7u166 =>
            intro w' hS'
            go_simp
            try with_reducible rfl
          simp only [List.setIfInBounds_toArray, List.set_cons_zero, List.set_cons_succ]
          refine take_op (i := 8) (d := 31) (v := ?_) rfl rfl (by kernel_rfl) (by kernel_rfl) (by kernel_rfl) (fun _ _ _ h => h) (Or.inl ⟨by rfl, ?hy8u167⟩) hHeld ?rest8u167
          case hy8u167 =>
            intro w' hS'
            go_simp
            try with_reducible rfl
          simp only [List.setIfInBounds_toArray, List.set_cons_zero, List.set_cons_succ]
          refine take_op (i := 9) (d := 32) (v := ?_) rfl rfl (by kernel_rfl) (by kernel_rfl) (by kernel_rfl) (fun _ _ _ h => h) (Or.inl ⟨by rfl, ?hy9u168⟩) hHeld ?rest9u168
          case hy9u168 =>
            intro w' hS'
            go_simp
            try with_reducible rfl
          simp only [List.setIfInBounds_toArray, List.set_cons_zero, List.set_cons_succ]
          refine take_op (i := 10) (d := 33) (v := ?_) rfl rfl (by kernel_rfl) (by kernel_rfl) (by kernel_rfl) (fun _ _ _ h => h) (Or.inl ⟨by rfl, ?hy10u169⟩) hHeld ?rest10u169
          case hy10u169 =>
            intro w' hS'
            go_simp
            try with_reducible rfl
          simp only [List.setIfInBounds_toArray, List.set_cons_zero, List.set_cons_succ]
          refine take_op (i := 11) (d := 34) (v := ?_) rfl rfl (by kernel_rfl) (by kernel_rfl) (by kernel_rfl) (fun _ _ _ h => h) (Or.inl ⟨by rfl, ?hy11u170⟩) hHeld ?rest11u170
          case hy11u170 =>
            intro w' hS'
            (have q0 : w'.cell? ⟨g', o' + m * 3, none⟩ = some (.int .i16 x.1) := cell_below hS' (HC.out 0 _ rfl)); go_simp
            try with_reducible rfl
          simp only [List.setIfInBounds_toArray, List.set_cons_zero, List.set_cons_succ]
          refine take_op (i := 12) (d := 35) (v := ?_) rfl rfl (by kernel_rfl) (by kernel_rfl) (by kernel_rfl) (fun _ _ _ h => h) (Or.inl ⟨by rfl, ?hy12u171⟩) hHeld ?rest12u171
          case hy12u171 =>
            intro w' hS'
            go_simp
            try with_reducible rfl
          simp only [List.setIfInBounds_toArray, List.set_cons_zero, List.set_cons_succ]
          refine take_op (i := 13) (d := 36) (v := ?_) rfl rfl (by kernel_rfl) (by kernel_rfl) (by kernel_rfl) (fun _ _ _ h => h) (Or.inl ⟨by rfl, ?hy13u172⟩) hHeld ?rest13u172
          case hy13u172 =>
            intro w' hS'
            go_simp
            try with_reducible rfl
          simp only [List.setIfInBounds_toArray, List.set_cons_zero, List.set_cons_succ]
          refine wpAnyH_ready (rs := [14]) (by kernel_rfl) (by simp) ?_
          refine AllReadyH.cons rfl (fun K hK => ?_) AllReadyH.nil
          go_simp
          refine (HG.out _).mono ?_
          rintro e w1 ⟨rfl, rfl⟩
          refine hK.out _ _ (hHeld) (fun hHeld2 => ?_)
          clear hK K
          replace hHeld := hHeld2
          clear hHeld2
          refine take_op (i := 15) (d := 9) (v := ?_) rfl rfl (by kernel_rfl) (by kernel_rfl) (by kernel_rfl) (fun _ _ _ h => h) (Or.inl ⟨by rfl, ?hy15u173⟩) hHeld ?rest15u173
          case hy15u173 =>
            intro w' hS'
            go_simp
            try with_reducible rfl
          simp only [List.setIfInBounds_toArray, List.set_cons_zero, List.set_cons_succ]
          refine wpAnyH_done (by kernel_rfl) ?_ _
          revert hHeld
          generalize wr.drew = W2
          intro hHeld
          replace H1 := Lib.hid (below_row hHeld H1.out)
          replace HC := Lib.hid (fun j v h => cell_below hHeld (HC.out j v h))
          replace hb := hb.trans (hHeld.mono hb.size)
          clear hHeld
          go_upto_region 6 with (fail)
          refine wp_region_held_drew (S := (fun V => Below W2.heap.size W2 V)) (by kernel_rfl) ((Below.refl _ _).drew) (fun hHeld => ?_)
          refine take_op (i := 0) (d := 38) (v := ?_) rfl rfl (by kernel_rfl) (by kernel_rfl) (by kernel_rfl) (fun _ _ _ h => h) (Or.inl ⟨by rfl, ?hy0u174⟩) hHeld ?rest0u174
          case hy0u174 =>
            intro w' hS'
            go_simp
            try with_reducible rfl
          simp only [List.setIfInBounds_toArray, List.set_cons_zero, List.set_cons_succ]
          refine take_op (i := 1) (d := 39) (v := ?_) rfl rfl (by kernel_rfl) (by kernel_rfl) (by kernel_rfl) (fun _ _ _ h => h) (Or.inl ⟨by rfl, ?hy1u175⟩) hHeld ?rest1u175
          case hy1u175 =>
            intro w' hS'
            go_simp; try rw [hup]
            try with_reducible rfl
          simp only [List.setIfInBounds_toArray, List.set_cons_zero, List.set_cons_succ]
          refine take_op (i := 2) (d := 40) (v := ?_) rfl rfl (by kernel_rfl) (by kernel_rfl) (by kernel_rfl) (fun _ _ _ h => h) (Or.inl ⟨by rfl, ?hy2u176⟩) hHeld ?rest2u176
          case hy2u176 =>
            intro w' hS'
            go_simp
            try with_reducible rfl
          simp only [List.setIfInBounds_toArray, List.set_cons_zero, List.set_cons_succ]
          refine take_op (i := 3) (d := 41) (v := ?_) rfl rfl (by kernel_rfl) (by kernel_rfl) (by kernel_rfl) (fun _ _ _ h => h) (Or.inl ⟨by rfl, ?hy3u177⟩) hHeld ?rest3u177
          case hy3u177 =>
            intro w' hS'
            go_simp
            try with_reducible rfl
          simp only [List.setIfInBounds_toArray, List.set_cons_zero, List.set_cons_succ]
          refine take_op (i := 4) (d := 42) (v := ?_) rfl rfl (by kernel_rfl) (by kernel_rfl) (by kernel_rfl) (fun _ _ _ h => h) (Or.inl ⟨by rfl, ?hy4u178⟩) hHeld ?rest4u178
          case hy4u178 =>
            intro w' hS'
            go_simp
            try with_reducible rfl
          simp only [List.setIfInBounds_toArray, List.set_cons_zero, List.set_cons_succ]
          refine take_op (i := 5) (d := 43) (v := ?_) rfl rfl (by kernel_rfl) (by kernel_rfl) (by kernel_rfl) (fun _ _ _ h => h) (Or.inl ⟨by rfl, ?hy5u179⟩) hHeld ?rest5u179
          case hy5u179 =>
            intro w' hS'
            go_simp
            try with_reducible rfl
          simp only [List.setIfInBounds_toArray, List.set_cons_zero, List.set_cons_succ]
          refine take_op (i := 6) (d := 44) (v := ?_) rfl rfl (by kernel_rfl) (by kernel_rfl) (by kernel_rfl) (fun _ _ _ h => h) (Or.inl ⟨by rfl, ?hy6u180⟩) hHeld ?rest6u180
          case hy6u180 =>
            intro w' hS'
            go_simp
            try with_reducible rfl
          simp only [List.setIfInBounds_toArray, List.set_cons_zero, List.set_cons_succ]
          refine take_op (i := 7) (d := 45) (v := ?_) rfl rfl (by kernel_rfl) (by kernel_rfl) (by kernel_rfl) (fun _ _ _ h => h) (Or.inl ⟨by rfl, ?hy7u181⟩) hHeld ?rest7u181
          case hy7u181 =>
            intro w' hS'
            go_simp
            try with_reducible rfl
          simp only [List.setIfInBounds_toArray, List.set_cons_zero, List.set_cons_succ]
          refine take_op (i := 8) (d := 46) (v := ?_) rfl rfl (by kernel_rfl) (by kernel_rfl) (by kernel_rfl) (fun _ _ _ h => h) (Or.inl ⟨by rfl, ?hy8u182⟩) hHeld ?rest8u182
          case hy8u182 =>
            intro w' hS'
            (have q0 : w'.cell? ⟨g', o' + m * 3 + 2, none⟩ = some (.int .i16 x.2.2) := cell_below hS' (HC.out 2 _ rfl)); go_simp
            try with_reducible rfl
          simp only [List.setIfInBounds_toArray, List.set_cons_zero, List.set_cons_succ]
          refine take_op (i := 9) (d := 47) (v := ?_) rfl rfl (by kernel_rfl) (by kernel_rfl) (by kernel_rfl) (fun _ _ _ h => h) (Or.inl ⟨by rfl, ?hy9u183⟩) hHeld ?rest9u183
          case hy9u183 =>
            intro w' hS'
            go_simp
            try with_reducible rfl
          simp only [List.setIfInBounds_toArray, List.set_cons_zero, List.set_cons_succ]
          refine take_op (i := 10) (d := 48) (v := ?_) rfl rfl (by kernel_rfl) (by kernel_rfl) (by kernel_rfl) (fun _ _ _ h => h) (Or.inl ⟨by rfl, ?hy10u184⟩) hHeld ?rest10u184
          case hy10u184 =>
            intro w' hS'
            go_simp; try rw [hd]
            try with_reducible rfl
          simp only [List.setIfInBounds_toArray, List.set_cons_zero, List.set_cons_succ]
          refine take_op (i := 11) (d := 49) (v := ?_) rfl rfl (by kernel_rfl) (by kernel_rfl) (by kernel_rfl) (fun _ _ _ h => h) (Or.inl ⟨by rfl, ?hy11u185⟩) hHeld ?rest11u185
          case hy11u185 =>
            intro w' hS'
            go_simp
            try with_reducible rfl
          simp only [List.setIfInBounds_toArray, List.set_cons_zero, List.set_cons_succ]
          refine take_op (i := 12) (d := 50) (v := ?_) rfl rfl (by kernel_rfl) (by kernel_rfl) (by kernel_rfl) (fun _ _ _ h => h) (Or.inl ⟨by rfl, ?hy12u186⟩) hHeld ?rest12u186
          case hy12u186 =>
            intro w' hS'
            go_simp
            try with_reducible rfl
          simp only [List.setIfInBounds_toArray, List.set_cons_zero, List.set_cons_succ]
          refine take_op (i := 13) (d := 51) (v := ?_) rfl rfl (by kernel_rfl) (by kernel_rfl) (by kernel_rfl) (fun _ _ _ h => h) (Or.inl ⟨by rfl, ?hy13u187⟩) hHeld ?rest13u187
          case hy13u187 =>
            intro w' hS'
            go_simp
            try with_reducible rfl
          simp only [List.setIfInBounds_toArray, List.set_cons_zero, List.set_cons_succ]
          refine take_op (i := 14) (d := 52) (v := ?_) rfl rfl (by kernel_rfl) (by kernel_rfl) (by kernel_rfl) (fun _ _ _ h => h) (Or.inl ⟨by rfl, ?hy14u188⟩) hHeld ?rest14u188
          case hy14u188 =>
            intro w' hS'
            go_simp
            try with_reducible rfl
          simp only [List.setIfInBounds_toArray, List.set_cons_zero, List.set_cons_succ]
          refine take_op (i := 15) (d := 53) (v := ?_) rfl rfl (by kernel_rfl) (by kernel_rfl) (by kernel_rfl) (fun _ _ _ h => h) (Or.inl ⟨by rfl, ?hy15u189⟩) hHeld ?rest15u189
          case hy15u189 =>
            intro w' hS'
            go_simp
            try with_reducible rfl
          simp only [List.setIfInBounds_toArray, List.set_cons_zero, List.set_cons_succ]
          refine take_op (i := 17) (d := 55) (v := ?_) rfl rfl (by kernel_rfl) (by kernel_rfl) (by kernel_rfl) (fun _ _ _ h => h) (Or.inl ⟨by rfl, ?hy17u190⟩) hHeld ?rest17u190
          case hy17u190 =>
            intro w' hS'
            go_simp
            try with_reducible rfl
          simp only [List.setIfInBounds_toArray, List.set_cons_zero, List.set_cons_succ]
          refine take_op (i := 18) (d := 56) (v := ?_) rfl rfl (by kernel_rfl) (by kernel_rfl) (by kernel_rfl) (fun _ _ _ h => h) (Or.inl ⟨by rfl, ?hy18u191⟩) hHeld ?rest18u191
          case hy18u191 =>
            intro w' hS'
            go_simp
            try with_reducible rfl
          simp only [List.setIfInBounds_toArray, List.set_cons_zero, List.set_cons_succ]
          refine take_op (i := 19) (d := 57) (v := ?_) rfl rfl (by kernel_rfl) (by kernel_rfl) (by kernel_rfl) (fun _ _ _ h => h) (Or.inl ⟨by rfl, ?hy19u192⟩) hHeld ?rest19u192
          case hy19u192 =>
            intro w' hS'
            go_simp
            try with_reducible rfl
          simp only [List.setIfInBounds_toArray, List.set_cons_zero, List.set_cons_succ]
          refine take_op (i := 20) (d := 58) (v := ?_) rfl rfl (by kernel_rfl) (by kernel_rfl) (by kernel_rfl) (fun _ _ _ h => h) (Or.inl ⟨by rfl, ?hy20u193⟩) hHeld ?rest20u193
          case hy20u193 =>
            intro w' hS'
            go_simp
            try with_reducible rfl
          simp only [List.setIfInBounds_toArray, List.set_cons_zero, List.set_cons_succ]
          refine take_op (i := 21) (d := 59) (v := ?_) rfl rfl (by kernel_rfl) (by kernel_rfl) (by kernel_rfl) (fun _ _ _ h => h) (Or.inl ⟨by rfl, ?hy21u194⟩) hHeld ?rest21u194
          case hy21u194 =>
            intro w' hS'
            (have q0 : w'.cell? ⟨g', o' + m * 3 + 1, none⟩ = some (.int .i16 x.2.1) := cell_below hS' (HC.out 1 _ rfl)); go_simp
            try with_reducible rfl
          simp only [List.setIfInBounds_toArray, List.set_cons_zero, List.set_cons_succ]
          refine take_op (i := 22) (d := 60) (v := ?_) rfl rfl (by kernel_rfl) (by kernel_rfl) (by kernel_rfl) (fun _ _ _ h => h) (Or.inl ⟨by rfl, ?hy22u195⟩) hHeld ?rest22u195
          case hy22u195 =>
            intro w' hS'
            go_simp
            try with_reducible rfl
          simp only [List.setIfInBounds_toArray, List.set_cons_zero, List.set_cons_succ]
          refine wpAnyH_ready (rs := [16]) (by kernel_rfl) (by simp) ?_
          refine AllReadyH.cons rfl (fun K hK => ?_) AllReadyH.nil
          go_simp
          refine (l00Min_ap _ _).mono ?_
          rintro e w3 ⟨rfl, rfl⟩
          refine hK.out _ _ (hHeld) (fun hHeld2 => ?_)
          clear hK K
          replace hHeld := hHeld2
          clear hHeld2
          refine take_op (i := 23) (d := 61) (v := ?_) rfl rfl (by kernel_rfl) (by kernel_rfl) (by kernel_rfl) (fun _ _ _ h => h) (Or.inl ⟨by rfl, ?hy23u196⟩) hHeld ?rest23u196
          case hy23u196 =>
            intro w' hS'
            go_simp; try rw [hdw]
            try with_reducible rfl
          simp only [List.setIfInBounds_toArray, List.set_cons_zero, List.set_cons_succ]
          refine take_op (i := 24) (d := 62) (v := ?_) rfl rfl (by kernel_rfl) (by kernel_rfl) (by kernel_rfl) (fun _ _ _ h => h) (Or.inl ⟨by rfl, ?hy24u197⟩) hHeld ?rest24u197
          case hy24u197 =>
            intro w' hS'
            go_simp
            try with_reducible rfl
          simp only [List.setIfInBounds_toArray, List.set_cons_zero, List.set_cons_succ]
          refine wpAnyH_done (by kernel_rfl) ?_ _
          revert hHeld
          generalize W2.drew = W4
          intro hHeld
          replace H1 := Lib.hid (below_row hHeld H1.out)
          replace HC := Lib.hid (fun j v h => cell_below hHeld (HC.out j v h))
          replace hb := hb.trans (hHeld.mono hb.size)
          clear hHeld
          go_wp2
          go_ret
          exact ⟨ret_boolR (any_hit HD.out EF.out).symm, hb⟩
    · obtain rfl : m = n := by omega
      have hall := HA.out
      rw [List.take_of_length_le (by rw [HN.out]; exact Nat.le_refl _)] at hall
      have HL := Lib.hid hall
      clear hall
      go_wp2
      go_ret
      exact ⟨ret_boolR HL.out.symm, hb⟩

end Go.Proofs.YtpcmcopfdghdgaaDoor

namespace Go.Proofs.YtpcmcopfdghdgaaDoor
open Go.ChangeShapes Go.WideShapes Go.ChangeAt Go.RowKit Go.Deep Go.Joins

attribute [local go_sem] run_store_f

theorem bit_of (q : Nat → Bool) (k : Nat) (hk : k < 24) : (bits .and .u32 ((maskN q 24 : Nat) / 2 ^ k : Int) 1 == 1) = q k := by
  have h1 : ((maskN q 24 : Nat) / 2 ^ k : Int) = ((maskN q 24 / 2 ^ k : Nat) : Int) := by
    rw [Int.natCast_ediv, Int.natCast_pow]; rfl
  have h2 : maskN q 24 < 2 ^ 24 := mask_lt q 24
  have h3 : maskN q 24 / 2 ^ k ≤ maskN q 24 := Nat.div_le_self _ _
  have h5 : (2 : Nat) ^ 24 < 4294967296 := by decide
  have h4 := u32_and_nat (maskN q 24 / 2 ^ k) 1 (by omega) (by decide)
  rw [h1, show (1 : Int) = ((1 : Nat) : Int) from rfl, h4, Nat.and_one_is_mod, mask_shift q 24 k hk]
  cases q k <;> rfl

set_option maxRecDepth 100000 in
set_option maxHeartbeats 4000000 in
theorem iHh_no (sv : Value) (trs : List Tr) (hwf : ∀ x ∈ trs, TrWf x) (hs ts : List Int) (hh : hs.length = 24) (ht : ts.length = 24) (e0 e1 e2 e3 : Addr) (n : Nat) (hn : refN (okTs trs && okB hs ts) true true = n) (hne : (codeE n != 0) = true) (w : World) (hts : TreesAt w sv trs) (hE : ErrsAt w e0 e1 e2 e3) :
    Calls Tryd.prog 21 #[sv, .agg (sunC hs ts)] w fun e w' => e = .returned (.tuple #[.int .u32 0, .int .i64 (codeE n)]) ∧ Below w.heap.size w w' := by
  have HCT := Lib.hid (fun V h1 h2 => checkTrees_is sv trs hwf hs ts hh ht true e0 e1 e2 e3 n hn V h1 h2)
  have Hh := Lib.hid hh
  have Ht := Lib.hid ht
  have HA := Lib.hid hts
  have HX := Lib.hid hE
  clear hts hE hwf hh ht hn
  generalize codeE n = c at *
  go_enter Tryd.func21, Tryd.ntmps21
  go_upto_region 1 with (fail)
  refine abs_world (fun W => W.heap[w.heap.size]? = some (.cells (sunC hs ts) 37 (0, 0)) ∧ Below w.heap.size w W) ⟨heap_alloc_new _ _, (Below.refl _ _).alloc (Nat.le_refl _) _⟩ ?_
  rintro W ⟨h0, hb⟩
  have H0 := Lib.hid h0
  replace HA := Lib.hid (trees_below HA.out hb)
  replace HX := Lib.hid (errs_below HX.out hb)
  clear h0
  go_wp2_with (first | (refine wpList_load_part rfl 37 _ rfl w.heap.size 0 48 rfl 37 (sunC hs ts) (0, 0) _ H0.out Tryd.underlying37 rfl info_sun (sun_fits _ _ Hh.out Ht.out) _ (sun_all _ _ Hh.out Ht.out) ?_) | (go_at_call 50; refine (HCT.out _ HA.out HX.out).mono ?_; rintro e W1 ⟨rfl, hb1⟩; replace H0 := Lib.hid (below_row hb1 H0.out); replace HA := Lib.hid (trees_below HA.out hb1); replace HX := Lib.hid (errs_below HX.out hb1); replace hb := hb.trans (hb1.mono hb.size); clear hb1))
  go_ret2
  exact ⟨rfl, hb⟩

set_option maxRecDepth 100000 in
set_option maxHeartbeats 4000000 in
theorem iHh_yes (sv : Value) (trs : List Tr) (hwf : ∀ x ∈ trs, TrWf x) (hs ts : List Int) (hh : hs.length = 24) (ht : ts.length = 24) (e0 e1 e2 e3 : Addr) (hn : refN (okTs trs && okB hs ts) true true = 0) (ho : okB hs ts = true) (w : World) (hts : TreesAt w sv trs) (hE : ErrsAt w e0 e1 e2 e3) :
    Calls Tryd.prog 21 #[sv, .agg (sunC hs ts)] w fun e w' => e = .returned (.tuple #[.int .u32 ((maskN (fun k : Nat => trs.any (fun x => hidT hs ts x (k : Int))) 24 : Nat) : Int), .int .i64 0]) ∧ Below w.heap.size w w' := by
  have HCT := Lib.hid (fun V h1 h2 => checkTrees_is sv trs hwf hs ts hh ht true e0 e1 e2 e3 0 hn V h1 h2)
  have HHB := Lib.hid (fun V h => hiddenBy_any sv trs hwf hs ts hh ht (fun k hk => okB_t hh ht ho (k : Int) (by omega) (by omega)) V h)
  have Hh := Lib.hid hh
  have Ht := Lib.hid ht
  have HA := Lib.hid hts
  have HX := Lib.hid hE
  clear hts hE hwf hh ht hn ho
  generalize maskN (fun k : Nat => trs.any (fun x => hidT hs ts x (k : Int))) 24 = m at *
  go_enter Tryd.func21, Tryd.ntmps21
  go_upto_region 1 with (fail)
  refine abs_world (fun W => W.heap[w.heap.size]? = some (.cells (sunC hs ts) 37 (0, 0)) ∧ Below w.heap.size w W) ⟨heap_alloc_new _ _, (Below.refl _ _).alloc (Nat.le_refl _) _⟩ ?_
  rintro W ⟨h0, hb⟩
  have H0 := Lib.hid h0
  replace HA := Lib.hid (trees_below HA.out hb)
  replace HX := Lib.hid (errs_below HX.out hb)
  clear h0
  go_wp2_with (first | (refine wpList_load_part rfl 37 _ rfl w.heap.size 0 48 rfl 37 (sunC hs ts) (0, 0) _ H0.out Tryd.underlying37 rfl info_sun (sun_fits _ _ Hh.out Ht.out) _ (sun_all _ _ Hh.out Ht.out) ?_) | (go_at_call 50; refine (HCT.out _ HA.out HX.out).mono ?_; rintro e W1 ⟨rfl, hb1⟩; replace H0 := Lib.hid (below_row hb1 H0.out); replace HA := Lib.hid (trees_below HA.out hb1); replace HX := Lib.hid (errs_below HX.out hb1); replace hb := hb.trans (hb1.mono hb.size); clear hb1) | (go_at_call 51; refine (HHB.out _ HA.out).mono ?_; rintro e W2 ⟨rfl, hb1⟩; replace H0 := Lib.hid (below_row hb1 H0.out); replace HA := Lib.hid (trees_below HA.out hb1); replace HX := Lib.hid (errs_below HX.out hb1); replace hb := hb.trans (hb1.mono hb.size); clear hb1))
  go_ret2
  exact ⟨rfl, hb⟩

set_option maxRecDepth 100000 in
set_option maxHeartbeats 4000000 in
theorem iHa_no (sv : Value) (trs : List Tr) (hwf : ∀ x ∈ trs, TrWf x) (hs ts : List Int) (hh : hs.length = 24) (ht : ts.length = 24) (e0 e1 e2 e3 : Addr) (hour : Int) (b : Bool) (hih : inH hour = b) (n : Nat) (hn : refN (okTs trs && okB hs ts) b true = n) (hne : (codeE n != 0) = true) (w : World) (hts : TreesAt w sv trs) (hE : ErrsAt w e0 e1 e2 e3) :
    Calls Tryd.prog 18 #[sv, .agg (sunC hs ts), .int .i64 hour] w fun e w' => e = .returned (.tuple #[.bool false, .int .i64 (codeE n)]) ∧ Below w.heap.size w w' := by
  have HCT := Lib.hid (fun V h1 h2 => checkTrees_is sv trs hwf hs ts hh ht b e0 e1 e2 e3 n hn V h1 h2)
  have HIH := Lib.hid (fun V => isHour_is hour b hih V)
  have Hh := Lib.hid hh
  have Ht := Lib.hid ht
  have HA := Lib.hid hts
  have HX := Lib.hid hE
  clear hts hE hwf hh ht hn hih
  generalize codeE n = c at *
  go_enter Tryd.func18, Tryd.ntmps18
  go_upto_region 1 with (fail)
  refine abs_world (fun W => W.heap[w.heap.size]? = some (.cells (sunC hs ts) 37 (0, 0)) ∧ Below w.heap.size w W) ⟨heap_alloc_new _ _, (Below.refl _ _).alloc (Nat.le_refl _) _⟩ ?_
  rintro W ⟨h0, hb⟩
  have H0 := Lib.hid h0
  replace HA := Lib.hid (trees_below HA.out hb)
  replace HX := Lib.hid (errs_below HX.out hb)
  clear h0
  refine wp_region_held_drew (S := (fun V => Below W.heap.size W V)) (by kernel_rfl) ((Below.refl _ _).drew) (fun hHeld => ?_)
  refine take_op (i := 0) (d := 9) (v := ?_) rfl rfl (by kernel_rfl) (by kernel_rfl) (by kernel_rfl) (fun _ _ _ h => h) (Or.inl ⟨by rfl, ?hy0y61⟩) hHeld ?rest0y61
  case hy0y61 =>
    intro w' hS'
    go_simp
    try with_reducible rfl
  simp only [List.setIfInBounds_toArray, List.set_cons_zero, List.set_cons_succ]
  refine take_op (i := 1) (d := 10) (v := .agg (sunC hs ts)) rfl rfl (by kernel_rfl) (by kernel_rfl) (by kernel_rfl) (fun _ _ _ h => h) (yields_row (by rfl) 37 (.tmp 4) (by rfl) w.heap.size 0 48 (by rfl) 37 (sunC hs ts) (0, 0) _ (fun _ h => below_row h H0.out) Tryd.underlying37 rfl info_sun (sun_fits _ _ Hh.out Ht.out) (sunC hs ts) (sun_all _ _ Hh.out Ht.out)) hHeld ?_
  simp only [List.setIfInBounds_toArray, List.set_cons_zero, List.set_cons_succ]
  refine take_op (i := 2) (d := 11) (v := ?_) rfl rfl (by kernel_rfl) (by kernel_rfl) (by kernel_rfl) (fun _ _ _ h => h) (Or.inl ⟨by rfl, ?hy2y62⟩) hHeld ?rest2y62
  case hy2y62 =>
    intro w' hS'
    go_simp
    try with_reducible rfl
  simp only [List.setIfInBounds_toArray, List.set_cons_zero, List.set_cons_succ]
  refine wpAnyH_ready (rs := [3]) (by kernel_rfl) (by simp) ?_
  refine AllReadyH.cons rfl (fun K hK => ?_) AllReadyH.nil
  go_simp
  refine (HIH.out _).mono ?_
  rintro e wc ⟨rfl, rfl⟩
  refine hK.out _ _ (hHeld) (fun hHeld2 => ?_)
  clear hK K
  replace hHeld := hHeld2
  clear hHeld2
  refine wpAnyH_ready (rs := [4]) (by kernel_rfl) (by simp) ?_
  refine AllReadyH.cons rfl (fun K hK => ?_) AllReadyH.nil
  go_simp
  refine (HCT.out _ (trees_below HA.out hHeld) (errs_below HX.out hHeld)).mono ?_
  rintro e W1 ⟨rfl, hb1⟩
  refine hK.out _ _ (hHeld.trans (hb1.mono hHeld.size)) (fun hHeld2 => ?_)
  clear hK K
  replace hHeld := hHeld2
  clear hHeld2
  clear hb1
  refine take_op (i := 5) (d := 8) (v := ?_) rfl rfl (by kernel_rfl) (by kernel_rfl) (by kernel_rfl) (fun _ _ _ h => h) (Or.inl ⟨by rfl, ?hy5y63⟩) hHeld ?rest5y63
  case hy5y63 =>
    intro w' hS'
    go_simp
    try with_reducible rfl
  simp only [List.setIfInBounds_toArray, List.set_cons_zero, List.set_cons_succ]
  refine wpAnyH_done (by kernel_rfl) ?_ _
  replace H0 := Lib.hid (below_row hHeld H0.out)
  replace HA := Lib.hid (trees_below HA.out hHeld)
  replace HX := Lib.hid (errs_below HX.out hHeld)
  replace hb := hb.trans (hHeld.mono hb.size)
  clear hHeld
  go_wp2
  go_ret2
  exact ⟨rfl, hb⟩

set_option maxRecDepth 100000 in
set_option maxHeartbeats 4000000 in
theorem iHa_yes (sv : Value) (trs : List Tr) (hwf : ∀ x ∈ trs, TrWf x) (hs ts : List Int) (hh : hs.length = 24) (ht : ts.length = 24) (e0 e1 e2 e3 : Addr) (k : Nat) (hk : k < 24) (hih : inH (k : Int) = true) (hn : refN (okTs trs && okB hs ts) true true = 0) (ho : okB hs ts = true) (w : World) (hts : TreesAt w sv trs) (hE : ErrsAt w e0 e1 e2 e3) :
    Calls Tryd.prog 18 #[sv, .agg (sunC hs ts), .int .i64 (k : Int)] w fun e w' => e = .returned (.tuple #[.bool (trs.any (fun x => hidT hs ts x (k : Int))), .int .i64 0]) ∧ Below w.heap.size w w' := by
  have HCT := Lib.hid (fun V h1 h2 => checkTrees_is sv trs hwf hs ts hh ht true e0 e1 e2 e3 0 hn V h1 h2)
  have HHB := Lib.hid (fun V h => hiddenBy_any sv trs hwf hs ts hh ht (fun k hk => okB_t hh ht ho (k : Int) (by omega) (by omega)) V h)
  have HIH := Lib.hid (fun V => isHour_is (k : Int) true hih V)
  have HBT := Lib.hid (bit_of (fun k : Nat => trs.any (fun x => hidT hs ts x (k : Int))) k hk)
  have Hh := Lib.hid hh
  have Ht := Lib.hid ht
  have HA := Lib.hid hts
  have HX := Lib.hid hE
  have w1 : IntKind.i64.wrap (k : Int) = (k : Int) := by rw [IntWalk.i64_in _ (by omega)]
  have w2 : IntKind.u64.wrap (k : Int) = (k : Int) := by rw [IntWalk.u64_in _ (by omega)]
  have w3 : (k : Int) ≤ 32 := by omega
  have w0 : (0 : Int) ≤ (k : Int) := by omega
  clear hts hE hwf hh ht hn ho hih
  generalize maskN (fun k : Nat => trs.any (fun x => hidT hs ts x (k : Int))) 24 = m at *
  generalize trs.any (fun x => hidT hs ts x (k : Int)) = r at *
  go_enter Tryd.func18, Tryd.ntmps18
  go_upto_region 1 with (fail)
  refine abs_world (fun W => W.heap[w.heap.size]? = some (.cells (sunC hs ts) 37 (0, 0)) ∧ Below w.heap.size w W) ⟨heap_alloc_new _ _, (Below.refl _ _).alloc (Nat.le_refl _) _⟩ ?_
  rintro W ⟨h0, hb⟩
  have H0 := Lib.hid h0
  replace HA := Lib.hid (trees_below HA.out hb)
  replace HX := Lib.hid (errs_below HX.out hb)
  clear h0
  refine wp_region_held_drew (S := (fun V => Below W.heap.size W V)) (by kernel_rfl) ((Below.refl _ _).drew) (fun hHeld => ?_)
  refine take_op (i := 0) (d := 9) (v := ?_) rfl rfl (by kernel_rfl) (by kernel_rfl) (by kernel_rfl) (fun _ _ _ h => h) (Or.inl ⟨by rfl, ?hy0y64⟩) hHeld ?rest0y64
  case hy0y64 =>
    intro w' hS'
    go_simp
    try with_reducible rfl
  simp only [List.setIfInBounds_toArray, List.set_cons_zero, List.set_cons_succ]
  refine take_op (i := 1) (d := 10) (v := .agg (sunC hs ts)) rfl rfl (by kernel_rfl) (by kernel_rfl) (by kernel_rfl) (fun _ _ _ h => h) (yields_row (by rfl) 37 (.tmp 4) (by rfl) w.heap.size 0 48 (by rfl) 37 (sunC hs ts) (0, 0) _ (fun _ h => below_row h H0.out) Tryd.underlying37 rfl info_sun (sun_fits _ _ Hh.out Ht.out) (sunC hs ts) (sun_all _ _ Hh.out Ht.out)) hHeld ?_
  simp only [List.setIfInBounds_toArray, List.set_cons_zero, List.set_cons_succ]
  refine take_op (i := 2) (d := 11) (v := ?_) rfl rfl (by kernel_rfl) (by kernel_rfl) (by kernel_rfl) (fun _ _ _ h => h) (Or.inl ⟨by rfl, ?hy2y65⟩) hHeld ?rest2y65
  case hy2y65 =>
    intro w' hS'
    go_simp
    try with_reducible rfl
  simp only [List.setIfInBounds_toArray, List.set_cons_zero, List.set_cons_succ]
  refine wpAnyH_ready (rs := [3]) (by kernel_rfl) (by simp) ?_
  refine AllReadyH.cons rfl (fun K hK => ?_) AllReadyH.nil
  go_simp
  refine (HIH.out _).mono ?_
  rintro e wc ⟨rfl, rfl⟩
  refine hK.out _ _ (hHeld) (fun hHeld2 => ?_)
  clear hK K
  replace hHeld := hHeld2
  clear hHeld2
  refine wpAnyH_ready (rs := [4]) (by kernel_rfl) (by simp) ?_
  refine AllReadyH.cons rfl (fun K hK => ?_) AllReadyH.nil
  go_simp
  refine (HCT.out _ (trees_below HA.out hHeld) (errs_below HX.out hHeld)).mono ?_
  rintro e W1 ⟨rfl, hb1⟩
  refine hK.out _ _ (hHeld.trans (hb1.mono hHeld.size)) (fun hHeld2 => ?_)
  clear hK K
  replace hHeld := hHeld2
  clear hHeld2
  clear hb1
  refine take_op (i := 5) (d := 8) (v := ?_) rfl rfl (by kernel_rfl) (by kernel_rfl) (by kernel_rfl) (fun _ _ _ h => h) (Or.inl ⟨by rfl, ?hy5y66⟩) hHeld ?rest5y66
  case hy5y66 =>
    intro w' hS'
    go_simp
    try with_reducible rfl
  simp only [List.setIfInBounds_toArray, List.set_cons_zero, List.set_cons_succ]
  refine wpAnyH_done (by kernel_rfl) ?_ _
  replace H0 := Lib.hid (below_row hHeld H0.out)
  replace HA := Lib.hid (trees_below HA.out hHeld)
  replace HX := Lib.hid (errs_below HX.out hHeld)
  replace hb := hb.trans (hHeld.mono hb.size)
  clear hHeld
  go_wp2_with (first | (refine wpList_load_part rfl 37 _ rfl w.heap.size 0 48 rfl 37 (sunC hs ts) (0, 0) _ H0.out Tryd.underlying37 rfl info_sun (sun_fits _ _ Hh.out Ht.out) _ (sun_all _ _ Hh.out Ht.out) ?_) | (go_at_call 51; refine (HHB.out _ HA.out).mono ?_; rintro e W2 ⟨rfl, hb1⟩; replace H0 := Lib.hid (below_row hb1 H0.out); replace HA := Lib.hid (trees_below HA.out hb1); replace HX := Lib.hid (errs_below HX.out hb1); replace hb := hb.trans (hb1.mono hb.size); clear hb1))
  go_ret2
  exact ⟨by rw [HBT.out]; rfl, hb⟩

set_option maxRecDepth 100000 in
set_option maxHeartbeats 4000000 in
theorem sHh_no (sv : Value) (trs : List Tr) (hwf : ∀ x ∈ trs, TrWf x) (hs ts : List Int) (hh : hs.length = 24) (ht : ts.length = 24) (rb : ∀ x ∈ hs ++ ts, -32768 ≤ x ∧ x ≤ 32767) (n : Nat) (hn : refN (okTs trs && okB hs ts) true true = n) (hne : (codeE n != 0) = true) (w : World) (hts : TreesAt w sv trs) :
    Calls Tryd.prog 20 #[sv, .agg (sunC hs ts)] w fun e w' => e = .returned (.tuple #[.int .u32 0, .int .i64 (codeE n)]) ∧ Below w.heap.size w w' := by
  have HSH := Lib.hid (fun g V h1 h2 => l04Shadow_is sv trs hwf hs ts hh ht rb true n hn g 37 (0, 0) V h1 h2)
  have HA := Lib.hid hts
  clear hts hwf hh ht hn
  generalize codeE n = c at *
  go_enter Tryd.func20, Tryd.ntmps20
  go_upto_region 1 with (fail)
  refine abs_world (fun W => W.heap[w.heap.size]? = some (.cells (sunC hs ts) 37 (0, 0)) ∧ Below w.heap.size w W) ⟨heap_alloc_new _ _, (Below.refl _ _).alloc (Nat.le_refl _) _⟩ ?_
  rintro W ⟨h0, hb⟩
  have H0 := Lib.hid h0
  replace HA := Lib.hid (trees_below HA.out hb)
  clear h0
  go_wp2_with (first | (go_at_call 47; refine (HSH.out _ _ HA.out H0.out).mono ?_; rintro e W1 ⟨rfl, hb1⟩; replace H0 := Lib.hid (below_row hb1 H0.out); replace HA := Lib.hid (trees_below HA.out hb1); replace hb := hb.trans (hb1.mono hb.size); clear hb1))
  go_ret2
  exact ⟨rfl, hb⟩

set_option maxRecDepth 100000 in
set_option maxHeartbeats 4000000 in
theorem sHa_no (sv : Value) (trs : List Tr) (hwf : ∀ x ∈ trs, TrWf x) (hs ts : List Int) (hh : hs.length = 24) (ht : ts.length = 24) (rb : ∀ x ∈ hs ++ ts, -32768 ≤ x ∧ x ≤ 32767) (hour : Int) (b : Bool) (hih : inH hour = b) (n : Nat) (hn : refN (okTs trs && okB hs ts) b true = n) (hne : (codeE n != 0) = true) (w : World) (hts : TreesAt w sv trs) :
    Calls Tryd.prog 16 #[sv, .agg (sunC hs ts), .int .i64 hour] w fun e w' => e = .returned (.tuple #[.bool false, .int .i64 (codeE n)]) ∧ Below w.heap.size w w' := by
  have HSH := Lib.hid (fun g V h1 h2 => l04Shadow_is sv trs hwf hs ts hh ht rb b n hn g 37 (0, 0) V h1 h2)
  have HIH := Lib.hid (fun V => l01Hour_is hour b hih V)
  have HA := Lib.hid hts
  clear hts hwf hh ht hn hih
  generalize codeE n = c at *
  go_enter Tryd.func16, Tryd.ntmps16
  go_upto_region 1 with (fail)
  refine abs_world (fun W => W.heap[w.heap.size]? = some (.cells (sunC hs ts) 37 (0, 0)) ∧ Below w.heap.size w W) ⟨heap_alloc_new _ _, (Below.refl _ _).alloc (Nat.le_refl _) _⟩ ?_
  rintro W ⟨h0, hb⟩
  have H0 := Lib.hid h0
  replace HA := Lib.hid (trees_below HA.out hb)
  clear h0
  go_wp2_with (first | (go_at_call 28; refine (HIH.out _).mono ?_; rintro e wc ⟨rfl, rfl⟩) | (go_at_call 47; refine (HSH.out _ _ HA.out H0.out).mono ?_; rintro e W1 ⟨rfl, hb1⟩; replace H0 := Lib.hid (below_row hb1 H0.out); replace HA := Lib.hid (trees_below HA.out hb1); replace hb := hb.trans (hb1.mono hb.size); clear hb1))
  go_ret2
  exact ⟨rfl, hb⟩

set_option maxRecDepth 100000 in
set_option maxHeartbeats 4000000 in
theorem sHa_yes (sv : Value) (trs : List Tr) (hwf : ∀ x ∈ trs, TrWf x) (hs ts : List Int) (hh : hs.length = 24) (ht : ts.length = 24) (rb : ∀ x ∈ hs ++ ts, -32768 ≤ x ∧ x ≤ 32767) (k : Nat) (hk : k < 24) (hih : inH (k : Int) = true) (hn : refN (okTs trs && okB hs ts) true true = 0) (ho : okB hs ts = true) (w : World) (hts : TreesAt w sv trs) :
    Calls Tryd.prog 16 #[sv, .agg (sunC hs ts), .int .i64 (k : Int)] w fun e w' => e = .returned (.tuple #[.bool (trs.any (fun x => hidT hs ts x (k : Int))), .int .i64 0]) ∧ Below w.heap.size w w' := by
  have HSH := Lib.hid (fun g V h1 h2 => l04Shadow_is sv trs hwf hs ts hh ht rb true 0 hn g 37 (0, 0) V h1 h2)
  have HHD := Lib.hid (fun (k : Nat) (hk : k < 24) g V h1 h2 => l04Hidden_any sv trs hwf hs ts hh ht k hk _ _ rfl rfl (okB_h hh ht ho (k : Int) (by omega) (by omega)) (okB_t hh ht ho (k : Int) (by omega) (by omega)) g 37 V h1 h2)
  have HIH := Lib.hid (fun V => l01Hour_is (k : Int) true hih V)
  have HA := Lib.hid hts
  clear hts hwf hh ht hn hih ho
  go_enter Tryd.func16, Tryd.ntmps16
  go_upto_region 1 with (fail)
  refine abs_world (fun W => W.heap[w.heap.size]? = some (.cells (sunC hs ts) 37 (0, 0)) ∧ Below w.heap.size w W) ⟨heap_alloc_new _ _, (Below.refl _ _).alloc (Nat.le_refl _) _⟩ ?_
  rintro W ⟨h0, hb⟩
  have H0 := Lib.hid h0
  replace HA := Lib.hid (trees_below HA.out hb)
  clear h0
  go_wp2_with (first | (go_at_call 28; refine (HIH.out _).mono ?_; rintro e wc ⟨rfl, rfl⟩) | (go_at_call 47; refine (HSH.out _ _ HA.out H0.out).mono ?_; rintro e W1 ⟨rfl, hb1⟩; replace H0 := Lib.hid (below_row hb1 H0.out); replace HA := Lib.hid (trees_below HA.out hb1); replace hb := hb.trans (hb1.mono hb.size); clear hb1) | (go_at_call 48; refine (HHD.out k hk _ _ HA.out H0.out).mono ?_; rintro e W2 ⟨rfl, hb1⟩; replace H0 := Lib.hid (below_row hb1 H0.out); replace HA := Lib.hid (trees_below HA.out hb1); replace hb := hb.trans (hb1.mono hb.size); clear hb1))
  go_ret2
  exact ⟨rfl, hb⟩

set_option maxRecDepth 100000 in
set_option maxHeartbeats 4000000 in
theorem sHh_yes (sv : Value) (trs : List Tr) (hwf : ∀ x ∈ trs, TrWf x) (hs ts : List Int) (hh : hs.length = 24) (ht : ts.length = 24) (rb : ∀ x ∈ hs ++ ts, -32768 ≤ x ∧ x ≤ 32767) (hn : refN (okTs trs && okB hs ts) true true = 0) (ho : okB hs ts = true) (w : World) (hts : TreesAt w sv trs) :
    Calls Tryd.prog 20 #[sv, .agg (sunC hs ts)] w fun e w' => e = .returned (.tuple #[.int .u32 ((maskN (fun k : Nat => trs.any (fun x => hidT hs ts x (k : Int))) 24 : Nat) : Int), .int .i64 0]) ∧ Below w.heap.size w w' := by
  have HSH := Lib.hid (fun g V h1 h2 => l04Shadow_is sv trs hwf hs ts hh ht rb true 0 hn g 37 (0, 0) V h1 h2)
  have HHD := Lib.hid (fun (k : Nat) (hk : k < 24) g V h1 h2 => l04Hidden_any sv trs hwf hs ts hh ht k hk _ _ rfl rfl (okB_h hh ht ho (k : Int) (by omega) (by omega)) (okB_t hh ht ho (k : Int) (by omega) (by omega)) g 37 V h1 h2)
  have HA := Lib.hid hts
  have hts0 := hts
  clear hts hwf hh ht hn ho
  obtain ⟨q, hq⟩ : ∃ q : Nat → Bool, q = fun k : Nat => trs.any (fun x => hidT hs ts x (k : Int)) := ⟨_, rfl⟩
  have HQ := Lib.hid (fun k : Nat => (congrFun hq k : q k = trs.any (fun x => hidT hs ts x (k : Int))))
  rw [← hq]
  clear hq
  go_enter Tryd.func20, Tryd.ntmps20
  go_upto_region 1 with (fail)
  refine abs_world (fun W => W.heap[w.heap.size]? = some (.cells (sunC hs ts) 37 (0, 0)) ∧ Below w.heap.size w W) ⟨heap_alloc_new _ _, (Below.refl _ _).alloc (Nat.le_refl _) _⟩ ?_
  rintro W ⟨h0, hb⟩
  have H0 := Lib.hid h0
  replace HA := Lib.hid (trees_below HA.out hb)
  clear h0
  go_upto_region 6 with (first | (go_at_call 47; refine (HSH.out _ _ HA.out H0.out).mono ?_; rintro e W1 ⟨rfl, hb1⟩; replace H0 := Lib.hid (below_row hb1 H0.out); replace HA := Lib.hid (trees_below HA.out hb1); replace hb := hb.trans (hb1.mono hb.size); clear hb1))
  go_loopw [7, 8] (fun o i wr => ∃ k : Nat, k ≤ 24 ∧ i = .int .i64 (k : Int) ∧ o = .int .u32 ((maskN q k : Nat) : Int) ∧ wr.heap[w.heap.size]? = some (.cells (sunC hs ts) 37 (0, 0)) ∧ Below w.heap.size w wr) (fun _ i _ => 24 - (intOf i).toNat)
  case atStart => exact ⟨0, Nat.zero_le _, rfl, rfl, H0.out, hb⟩
  case round =>
    have HA0 := Lib.hid hts0
    clear HA H0 hb
    obtain ⟨k, hk, rfl, rfl, h0, hb⟩ := hrel
    have H0 := Lib.hid h0
    have HA := Lib.hid (trees_below HA0.out hb)
    clear h0
    by_cases hlt : k < 24
    · have z1 : (k : Int) < 24 := by omega
      have z2 : (0 : Int) ≤ (k : Int) := by omega
      have w1 : IntKind.i64.wrap (k : Int) = (k : Int) := by rw [IntWalk.i64_in _ (by omega)]
      have w2 : IntKind.u64.wrap (k : Int) = (k : Int) := by rw [IntWalk.u64_in _ (by omega)]
      have w3 : (k : Int) ≤ 32 := by omega
      have hmz : maskN q k < 4294967296 := Nat.lt_of_lt_of_le (mask_lt q k) (by have : (2 : Nat) ^ k ≤ 2 ^ 32 := Nat.pow_le_pow_right (by decide) (by omega); exact this)
      obtain ⟨hor, hpw⟩ := or_u32 hmz hlt
      have w4 : IntKind.u32.wrap ((2 : Int) ^ k) = (2 : Int) ^ k := hpw
      have HHQ := HQ.out k
      cases hqk : q k with
      | false =>
        have HM : Hid (maskN q (k + 1) = maskN q k) := Lib.hid (by rw [maskN, hqk]; rfl)
        rw [hqk] at HHQ
        have HQ2 := Lib.hid HHQ
        clear HHQ hqk
        go_wp2_with (first | (go_at_call 48; refine (HHD.out k hlt _ _ HA.out H0.out).mono ?_; rw [← HQ2.out]; rintro e W2 ⟨rfl, hb1⟩; replace H0 := Lib.hid (below_row hb1 H0.out); replace HA := Lib.hid (trees_below HA.out hb1); replace hb := hb.trans (hb1.mono hb.size); clear hb1))
        refine ⟨⟨_, _, _, _, _, _, _, _, _, _, _, _, _, _, ⟨k + 1, by omega, by go_num, by rw [HM.out], H0.out, hb⟩, rfl⟩, ?_⟩
        simp [intOf]; omega
      | true =>
        have HM : Hid (maskN q (k + 1) = maskN q k ||| 2 ^ k) := Lib.hid (by rw [maskN, hqk]; rfl)
        rw [hqk] at HHQ
        have HQ2 := Lib.hid HHQ
        clear HHQ hqk
        go_wp2_with (first | (go_at_call 48; refine (HHD.out k hlt _ _ HA.out H0.out).mono ?_; rw [← HQ2.out]; rintro e W2 ⟨rfl, hb1⟩; replace H0 := Lib.hid (below_row hb1 H0.out); replace HA := Lib.hid (trees_below HA.out hb1); replace hb := hb.trans (hb1.mono hb.size); clear hb1))
        refine ⟨⟨_, _, _, _, _, _, _, _, _, _, _, _, _, _, ⟨k + 1, by omega, by go_num, by rw [HM.out, ← hor], H0.out, hb⟩, rfl⟩, ?_⟩
        simp [intOf]; omega
    · obtain rfl : k = 24 := by omega
      go_wp2
      go_ret2
      exact ⟨rfl, hb⟩

end Go.Proofs.YtpcmcopfdghdgaaDoor

namespace Go.Proofs.YtpcmcopfdghdgaaDoor
open Go.ChangeShapes Go.WideShapes Go.ChangeAt Go.RowKit

set_option maxRecDepth 100000 in
theorem door_met (os : Os) (args : Array Value) : laidMetH Tryd.prog lst ((World.doorLaid Tryd.prog 200 os).forCall (fun _ _ => 0) ⟨#[], args, []⟩).memory :=
  laidMetH_of_parts3 (fuel := 8) (laidMet_of_run' 8 (by kernel_rfl) (by kernel_rfl)) (by kernel_rfl) (by kernel_rfl)

set_option maxRecDepth 100000 in
theorem door_shaped (os : Os) : (World.doorLaid Tryd.prog 200 os).Shaped Tryd.prog := World.shaped_of_RefB (by kernel_rfl) (by kernel_rfl)

/-- The condition of a row that lists the sentinels. -/
abbrev Met (w : World) (_ : Array Value) : Prop := laidMetH Tryd.prog lst w

set_option maxRecDepth 100000 in
theorem law_liftedC (F : FuncId) (fn : Func) (s : ChangeSpec) (conds : List PathCond) (os : Os) (started : os.Started) (H : Type) (enc : TypeId × Value → H)
    (hno : Tryd.checked.prog.inits.idxOf? F = none) (hfn : Tryd.checked.prog.funcs[F]? = some fn) (hv : varsRowed Tryd.prog s.vars = true) (hvl : s.vars.length = 4) (hr : fn.resultTypes = #[4])
    (hts : ∀ t ∈ fn.params.toList, Tryd.prog.readableRec t = true ∧ t < Tryd.prog.types.size)
    (hspec : ∀ ds gs : List (DataW H), ds.length = fn.params.size → gs.length = 4 → s.fn H (ds ++ gs) = { results := [.lit (.bool true)], args := ds, vars := gs })
    (wit : ∃ (w : World) (tape : Tape) (i : Input), w.os = os ∧ (w.forCall tape i).Shaped Tryd.checked.prog ∧ i.vars = [] ∧ Input.okWide Tryd.checked.prog (w.forCall tape i) .any w.heap.size F i ∧
      ((s.pre enc Tryd.checked.prog fn conds false (w.forCall tape i).memory i.args ∧ Met (w.forCall tape i).memory i.args) ∧ sizedMet enc Tryd.checked.prog fn (OpenSpec.ofChange s) false (w.forCall tape i).memory i.args) ∧ ({} : Assume).holds Tryd.checked.prog (lone (Frame.enter Tryd.checked.prog F i.args .normal) [] (w.forCall tape i)))
    (walk : ∀ (W : World) (base : Nat) (args : Array Value) (ds : List (DataW H)) (p : List MemPlace),
      (∀ (j : Nat) t v, fn.params[j]? = some t → args[j]? = some v → Value.okWide Tryd.prog W .any base t v) →
      DataW.TrodAll enc Tryd.prog W 0 (fun _ => true) true fn.params.toList args.toList ds p → laidMetH Tryd.prog lst W →
      Calls Tryd.prog F args W fun e W' => e = .returned (.bool true) ∧ Below W.heap.size W W') :
    ReturnsInHanded {} Tryd.checked os F .any (fun w args => (s.pre enc Tryd.prog fn conds false w args ∧ laidMetH Tryd.prog lst w) ∧ sizedMet enc Tryd.prog fn (OpenSpec.ofChange s) false w args) (s.post enc Tryd.prog fn false true false false) := by
  refine returnsInHanded_of_change_and (C := Tryd.checked) (X := Met) (fun _ _ _ hh h => h.of_heap hh) law_own started hno hfn wit ?_
  intro W base args ds gs before hval0 hW hcnd _ hL _
  have hW' := hW
  obtain ⟨p, q, hA0, hV, rfl, hfz, hnd⟩ := hW
  have hgl : gs.length = 4 := by
    have key : ∀ (ns : List String) (gs : List (DataW H)) (ps : List MemPlace), DataW.TrodVars enc Tryd.checked.prog W (fun _ => true) ns gs ps → gs.length = ns.length := by
      intro ns
      induction ns with
      | nil => intro gs ps h; obtain ⟨rfl, _⟩ := trodVars_none h; rfl
      | cons n ns ih =>
        intro gs ps h
        cases gs with
        | nil => exact h.elim
        | cons d ds => obtain ⟨_, _, _, _, _, _, _, _, _, _, hs, _⟩ := h; simp [ih _ _ hs]
    rw [key _ _ _ hV, hvl]
  have hlen : ds.length = fn.params.size := by
    have key : ∀ (ts : List TypeId) (vs : List Value) (ds : List (DataW H)) (ps : List MemPlace), DataW.TrodAll enc Tryd.checked.prog W 0 (fun _ => true) true ts vs ds ps → ds.length = ts.length := by
      intro ts
      induction ts with
      | nil => intro vs ds ps h; obtain ⟨_, rfl, _⟩ := trodAll_nil h; rfl
      | cons t ts ih => intro vs ds ps h; obtain ⟨v, vs', d, ds', p, q, _, rfl, _, _, r0⟩ := trodAll_cons h; simp [ih _ _ _ r0]
    simpa using key _ _ _ _ hA0
  refine (walk W base args ds p hval0 hA0 hL).mono fun e W' ⟨he, hg⟩ => ?_
  subst he
  have hlt : ∀ x ∈ p, x.block < W.heap.size := fun x hx => hW'.lt x (by simp [hx])
  refine ⟨_, rfl, _, _, _, [], p, q, hW', ?_, ?_, ?_, hg.frame _, fun h => by cases h⟩
  · rw [hspec ds gs hlen hgl, hr]
    exact trodAll_mk1 (shut_bool Tryd.underlying4 _)
  · rw [hspec ds gs hlen hgl]
    exact trodAll_below law_laidOut hg _ _ _ _ hts hA0 hlt
  · rw [hspec ds gs hlen hgl]
    exact Below.trodVars law_laidOut hg hv hV

end Go.Proofs.YtpcmcopfdghdgaaDoor

namespace Go.Proofs.YtpcmcopfdghdgaaDoor
open Go

theorem leaving_of_handed {a : Assume} {C : Checked} {os : Os} {f : FuncId} {r : Reach} {Pre : World → Array Value → Prop} {Post : World → Array Value → Value → World → Prop}
    (h : ReturnsInHanded a C os f r Pre Post) : ReturnsInLeavingWide a C os f r Pre Post := fun enter => by
  obtain ⟨h1, h2, h3, h4, h5⟩ := h enter
  refine ⟨h1, h2, h3, h4, fun w tape i hf => ?_⟩
  obtain ⟨n, v, w', a1, a2, a3, a4, ⟨j, last, b1, b2, b3⟩, a6⟩ := h5 w tape i hf
  exact ⟨n, v, w', a1, a2, a3, a4, ⟨j, last, b1, b2, b3.2.1, onlyLeaving_of_quiet b3.1, b3.2.2⟩, a6⟩

end Go.Proofs.YtpcmcopfdghdgaaDoor

namespace Go.Proofs.YtpcmcopfdghdgaaDoor
open Go.ChangeShapes Go.WideShapes Go.ChangeAt Go.RowKit Go.Deep Go.Joins

attribute [local go_sem] run_store_f

set_option maxRecDepth 100000 in
theorem open_treeS {H : Type} {enc : TypeId × Value → H} {W : World} {b0 base : Nat} {spare : Nat → Bool} {held : Bool} {r : Reach} {v : Value} {d : DataW H} {p : List MemPlace}
    (hv : Value.okWide Tryd.prog W r b0 42 v) (h : DataW.Trod enc Tryd.prog W base spare held 42 v d p) : ∃ ts, TreesAt W v ts ∧ ∀ x ∈ ts, TrWf x := by
  obtain ⟨a0, len0, cap0, rfl⟩ := okWide_slice Tryd.underlying42 hv
  obtain ⟨fuel, hf⟩ := h
  exact open_trees hf

theorem refN_zero {v r f : Bool} (h : codeE (refN v r f) = 0) : v = true ∧ r = true ∧ f = true := by
  cases v <;> cases r <;> cases f <;> simp [refN, codeE] at h ⊢

theorem refN_ne {v r f : Bool} (h : ¬ (v = true ∧ r = true ∧ f = true)) : (codeE (refN v r f) != 0) = true := by
  cases v <;> cases r <;> cases f <;> first | rfl | exact absurd ⟨rfl, rfl, rfl⟩ h

set_option maxRecDepth 100000 in
set_option maxHeartbeats 8000000 in
theorem lawHiddenAt_core (sv : Value) (trs : List Tr) (hs ts : List Int) (hh : hs.length = 24) (ht : ts.length = 24) (hour : Int) (v0 : Bool) (v1 : Int) (e0 e1 e2 e3 : Addr)
    (hS : ∀ (d : Value) (W : World), TreesAt W d trs → Calls Tryd.prog 16 #[d, .agg (sunC hs ts), .int .i64 hour] W fun e w' => e = .returned (.tuple #[.bool v0, .int .i64 v1]) ∧ Below W.heap.size W w')
    (hI : ∀ (d : Value) (W : World), TreesAt W d trs → ErrsAt W e0 e1 e2 e3 → Calls Tryd.prog 18 #[d, .agg (sunC hs ts), .int .i64 hour] W fun e w' => e = .returned (.tuple #[.bool v0, .int .i64 v1]) ∧ Below W.heap.size W w')
    (w : World) (hts : TreesAt w sv trs) (hE : ErrsAt w e0 e1 e2 e3) :
    Calls Tryd.prog 4 #[sv, .agg (sunC hs ts), .int .i64 hour] w fun e w' => e = .returned (.bool true) ∧ Below w.heap.size w w' := by
  have HA := Lib.hid hts
  have HX := Lib.hid hE
  have HS := Lib.hid hS
  have HI := Lib.hid hI
  have Hh := Lib.hid hh
  have Ht := Lib.hid ht
  have zb : (v0 != v0) = false := by simp
  have zc : (v1 != v1) = false := by simp
  have hdv := hts
  obtain ⟨d0, dcap, edv, hm1, hm2, _⟩ := hdv
  unfold maxLen at hm2
  have HZ := Lib.hid (fun w => szTreeS_any d0 trs.length dcap 1048576 (by omega) (by decide) (by decide) w)
  rw [← edv] at HZ
  have hlr : (leftI trs.length 1048576 < 0 ∧ 1048576 < trs.length) ∨ (0 ≤ leftI trs.length 1048576 ∧ trs.length ≤ 1048576) := by unfold leftI; split <;> omega
  clear hts edv hm1 hm2 hE hS hI hh ht
  generalize leftI (trs.length : Int) 1048576 = lf at *
  go_enter Tryd.func4, Tryd.ntmps4
  go_upto_region 1 with (fail)
  refine abs_world (fun W => W.heap[w.heap.size]? = some (.cells (sunC hs ts) 29 (0, 0)) ∧ Below w.heap.size w W) ⟨heap_alloc_new _ _, (Below.refl _ _).alloc (Nat.le_refl _) _⟩ ?_
  rintro W ⟨h0, hb⟩
  have H0 := Lib.hid h0
  replace HA := Lib.hid (trees_below HA.out hb)
  replace HX := Lib.hid (errs_below HX.out hb)
  clear h0
  rcases hlr with ⟨hlf, _⟩ | ⟨hlf, hlen⟩
  · go_wp2_with (go_at_call 15; refine (HZ.out _).mono ?_; rintro e W1 ⟨rfl, rfl⟩)
    go_ret
    exact ⟨rfl, hb⟩
  · go_upto_region 5 with (go_at_call 15; refine (HZ.out _).mono ?_; rintro e W1 ⟨rfl, rfl⟩)
    refine wp_region_held_drew (S := (fun V => Below W.heap.size W V)) (by kernel_rfl) ((Below.refl _ _).drew) (fun hHeld => ?_)
    refine take_op (i := 0) (d := 19) (v := ?_) rfl rfl (by kernel_rfl) (by kernel_rfl) (by kernel_rfl) (fun _ _ _ h => h) (Or.inl ⟨by rfl, ?hy0y67⟩) hHeld ?rest0y67
    case hy0y67 =>
      intro w' hS'
      go_simp
      try with_reducible rfl
    simp only [List.setIfInBounds_toArray, List.set_cons_zero, List.set_cons_succ]
    refine take_op (i := 2) (d := 21) (v := .agg (sunC hs ts)) rfl rfl (by kernel_rfl) (by kernel_rfl) (by kernel_rfl) (fun _ _ _ h => h) (yields_row (by rfl) 29 (.tmp 4) (by rfl) w.heap.size 0 48 (by rfl) 29 (sunC hs ts) (0, 0) _ (fun _ h => below_row h H0.out) Tryd.underlying29 rfl info_sunL (sun_fits _ _ Hh.out Ht.out) (sunC hs ts) (sun_all _ _ Hh.out Ht.out)) hHeld ?_
    simp only [List.setIfInBounds_toArray, List.set_cons_zero, List.set_cons_succ]
    refine take_op (i := 4) (d := 23) (v := ?_) rfl rfl (by kernel_rfl) (by kernel_rfl) (by kernel_rfl) (fun _ _ _ h => h) (Or.inl ⟨by rfl, ?hy4y68⟩) hHeld ?rest4y68
    case hy4y68 =>
      intro w' hS'
      go_simp
      try with_reducible rfl
    simp only [List.setIfInBounds_toArray, List.set_cons_zero, List.set_cons_succ]
    refine wpAnyH_ready (rs := [1]) (by kernel_rfl) (by simp) ?_
    refine AllReadyH.cons rfl (fun K hK => ?_) AllReadyH.nil
    go_simp
    refine (toTreeS_any sv trs hlen _ (trees_below HA.out hHeld)).mono ?_
    rintro e Wa ⟨⟨v3, rfl, hv3⟩, hb1⟩
    have HV3 := Lib.hid (ownT_at hv3)
    clear hv3
    refine hK.out _ _ (hHeld.trans (hb1.mono hHeld.size)) (fun hHeld2 => ?_)
    clear hK K
    replace hHeld := hHeld2
    clear hHeld2
    clear hb1
    refine wpAnyH_ready (rs := [3]) (by kernel_rfl) (by simp) ?_
    refine AllReadyH.cons rfl (fun K hK => ?_) AllReadyH.nil
    go_simp
    refine (toSun_any hs ts Hh.out Ht.out _).mono ?_
    rintro e Wb ⟨rfl, hb2⟩
    replace HV3 := Lib.hid (trees_below HV3.out hb2)
    refine hK.out _ _ (hHeld.trans (hb2.mono hHeld.size)) (fun hHeld2 => ?_)
    clear hK K
    replace hHeld := hHeld2
    clear hHeld2
    clear hb2
    refine wpAnyH_ready (rs := [5]) (by kernel_rfl) (by simp) ?_
    refine AllReadyH.cons rfl (fun K hK => ?_) AllReadyH.nil
    go_simp
    refine (HS.out _ _ HV3.out).mono ?_
    rintro e Wc ⟨rfl, hb3⟩
    refine hK.out _ _ (hHeld.trans (hb3.mono hHeld.size)) (fun hHeld2 => ?_)
    clear hK K
    replace hHeld := hHeld2
    clear hHeld2
    clear hb3 HV3
    refine take_op (i := 6) (d := 18) (v := ?_) rfl rfl (by kernel_rfl) (by kernel_rfl) (by kernel_rfl) (fun _ _ _ h => h) (Or.inl ⟨by rfl, ?hy6y69⟩) hHeld ?rest6y69
    case hy6y69 =>
      intro w' hS'
      go_simp
      try with_reducible rfl
    simp only [List.setIfInBounds_toArray, List.set_cons_zero, List.set_cons_succ]
    refine take_op (i := 7) (d := 25) (v := ?_) rfl rfl (by kernel_rfl) (by kernel_rfl) (by kernel_rfl) (fun _ _ _ h => h) (Or.inl ⟨by rfl, ?hy7y70⟩) hHeld ?rest7y70
    case hy7y70 =>
      intro w' hS'
      go_simp
      try with_reducible rfl
    simp only [List.setIfInBounds_toArray, List.set_cons_zero, List.set_cons_succ]
    refine take_op (i := 8) (d := 26) (v := ?_) rfl rfl (by kernel_rfl) (by kernel_rfl) (by kernel_rfl) (fun _ _ _ h => h) (Or.inl ⟨by rfl, ?hy8y71⟩) hHeld ?rest8y71
    case hy8y71 =>
      intro w' hS'
      go_simp
      try with_reducible rfl
    simp only [List.setIfInBounds_toArray, List.set_cons_zero, List.set_cons_succ]
    refine take_op (i := 9) (d := 8) (v := ?_) rfl rfl (by kernel_rfl) (by kernel_rfl) (by kernel_rfl) (fun _ _ _ h => h) (Or.inl ⟨by rfl, ?hy9y72⟩) hHeld ?rest9y72
    case hy9y72 =>
      intro w' hS'
      go_simp
      try with_reducible rfl
    simp only [List.setIfInBounds_toArray, List.set_cons_zero, List.set_cons_succ]
    refine take_op (i := 10) (d := 9) (v := ?_) rfl rfl (by kernel_rfl) (by kernel_rfl) (by kernel_rfl) (fun _ _ _ h => h) (Or.inl ⟨by rfl, ?hy10y73⟩) hHeld ?rest10y73
    case hy10y73 =>
      intro w' hS'
      go_simp
      try with_reducible rfl
    simp only [List.setIfInBounds_toArray, List.set_cons_zero, List.set_cons_succ]
    refine wpAnyH_done (by kernel_rfl) ?_ _
    replace H0 := Lib.hid (below_row hHeld H0.out)
    replace HA := Lib.hid (trees_below HA.out hHeld)
    replace HX := Lib.hid (errs_below HX.out hHeld)
    replace hb := hb.trans (hHeld.mono hb.size)
    clear hHeld HZ HS
    go_upto_region 7 with (go_at_call 17; refine (toTreeS_any sv trs hlen _ HA.out).mono ?_; rintro e W3 ⟨⟨v6, rfl, hv⟩, hb1⟩; have HV6 := Lib.hid (ownT_at hv); clear hv; replace H0 := Lib.hid (below_row hb1 H0.out); replace HA := Lib.hid (trees_below HA.out hb1); replace HX := Lib.hid (errs_below HX.out hb1); replace hb := hb.trans (hb1.mono hb.size); clear hb1)
    go_upto_region 8 with (first | (refine wpList_load_part rfl 29 _ rfl w.heap.size 0 48 rfl 29 (sunC hs ts) (0, 0) _ H0.out Tryd.underlying29 rfl info_sunL (sun_fits _ _ Hh.out Ht.out) _ (sun_all _ _ Hh.out Ht.out) ?_) | (go_at_call 10; refine (toSun_any hs ts Hh.out Ht.out _).mono ?_; rintro e W4 ⟨rfl, hb1⟩; replace H0 := Lib.hid (below_row hb1 H0.out); replace HA := Lib.hid (trees_below HA.out hb1); replace HX := Lib.hid (errs_below HX.out hb1); replace HV6 := Lib.hid (trees_below HV6.out hb1); replace hb := hb.trans (hb1.mono hb.size); clear hb1) | (go_at_call 18; refine (HI.out _ _ HV6.out HX.out).mono ?_; rintro e W5 ⟨rfl, hb1⟩; replace H0 := Lib.hid (below_row hb1 H0.out); replace HA := Lib.hid (trees_below HA.out hb1); replace HX := Lib.hid (errs_below HX.out hb1); replace HV6 := Lib.hid (trees_below HV6.out hb1); replace hb := hb.trans (hb1.mono hb.size); clear hb1))
    clear HI
    go_wp2_with (first | (go_at_call 17; refine (toTreeS_any sv trs hlen _ HA.out).mono ?_; rintro e W3 ⟨⟨v7, rfl, hv⟩, hb1⟩; have HV7 := Lib.hid (ownT_at hv); clear hv; replace H0 := Lib.hid (below_row hb1 H0.out); replace HA := Lib.hid (trees_below HA.out hb1); replace HX := Lib.hid (errs_below HX.out hb1); replace HV6 := Lib.hid (trees_below HV6.out hb1); replace hb := hb.trans (hb1.mono hb.size); clear hb1) | (go_at_call 19; refine (eqTreeS_any v6 v7 trs _ HV6.out HV7.out).mono ?_; rintro e W9 ⟨rfl, hb1⟩; replace hb := hb.trans (hb1.mono hb.size); clear hb1))
    go_ret
    exact ⟨rfl, hb⟩

set_option maxRecDepth 100000 in
set_option maxHeartbeats 8000000 in
theorem lawHiddenHours_core (sv : Value) (trs : List Tr) (hs ts : List Int) (hh : hs.length = 24) (ht : ts.length = 24) (v0 : Int) (v1 : Int) (e0 e1 e2 e3 : Addr)
    (hS : ∀ (d : Value) (W : World), TreesAt W d trs → Calls Tryd.prog 20 #[d, .agg (sunC hs ts)] W fun e w' => e = .returned (.tuple #[.int .u32 v0, .int .i64 v1]) ∧ Below W.heap.size W w')
    (hI : ∀ (d : Value) (W : World), TreesAt W d trs → ErrsAt W e0 e1 e2 e3 → Calls Tryd.prog 21 #[d, .agg (sunC hs ts)] W fun e w' => e = .returned (.tuple #[.int .u32 v0, .int .i64 v1]) ∧ Below W.heap.size W w')
    (w : World) (hts : TreesAt w sv trs) (hE : ErrsAt w e0 e1 e2 e3) :
    Calls Tryd.prog 5 #[sv, .agg (sunC hs ts)] w fun e w' => e = .returned (.bool true) ∧ Below w.heap.size w w' := by
  have HA := Lib.hid hts
  have HX := Lib.hid hE
  have HS := Lib.hid hS
  have HI := Lib.hid hI
  have Hh := Lib.hid hh
  have Ht := Lib.hid ht
  have zb : (v0 != v0) = false := by simp
  have zc : (v1 != v1) = false := by simp
  have hdv := hts
  obtain ⟨d0, dcap, edv, hm1, hm2, _⟩ := hdv
  unfold maxLen at hm2
  have HZ := Lib.hid (fun w => szTreeS_any d0 trs.length dcap 1048576 (by omega) (by decide) (by decide) w)
  rw [← edv] at HZ
  have hlr : (leftI trs.length 1048576 < 0 ∧ 1048576 < trs.length) ∨ (0 ≤ leftI trs.length 1048576 ∧ trs.length ≤ 1048576) := by unfold leftI; split <;> omega
  clear hts edv hm1 hm2 hE hS hI hh ht
  generalize leftI (trs.length : Int) 1048576 = lf at *
  go_enter Tryd.func5, Tryd.ntmps5
  go_upto_region 1 with (fail)
  refine abs_world (fun W => W.heap[w.heap.size]? = some (.cells (sunC hs ts) 29 (0, 0)) ∧ Below w.heap.size w W) ⟨heap_alloc_new _ _, (Below.refl _ _).alloc (Nat.le_refl _) _⟩ ?_
  rintro W ⟨h0, hb⟩
  have H0 := Lib.hid h0
  replace HA := Lib.hid (trees_below HA.out hb)
  replace HX := Lib.hid (errs_below HX.out hb)
  clear h0
  rcases hlr with ⟨hlf, _⟩ | ⟨hlf, hlen⟩
  · go_wp2_with (go_at_call 15; refine (HZ.out _).mono ?_; rintro e W1 ⟨rfl, rfl⟩)
    go_ret
    exact ⟨rfl, hb⟩
  · go_upto_region 5 with (go_at_call 15; refine (HZ.out _).mono ?_; rintro e W1 ⟨rfl, rfl⟩)
    refine wp_region_held_drew (S := (fun V => Below W.heap.size W V)) (by kernel_rfl) ((Below.refl _ _).drew) (fun hHeld => ?_)
    refine take_op (i := 0) (d := 17) (v := ?_) rfl rfl (by kernel_rfl) (by kernel_rfl) (by kernel_rfl) (fun _ _ _ h => h) (Or.inl ⟨by rfl, ?hy0y74⟩) hHeld ?rest0y74
    case hy0y74 =>
      intro w' hS'
      go_simp
      try with_reducible rfl
    simp only [List.setIfInBounds_toArray, List.set_cons_zero, List.set_cons_succ]
    refine take_op (i := 2) (d := 19) (v := .agg (sunC hs ts)) rfl rfl (by kernel_rfl) (by kernel_rfl) (by kernel_rfl) (fun _ _ _ h => h) (yields_row (by rfl) 29 (.tmp 3) (by rfl) w.heap.size 0 48 (by rfl) 29 (sunC hs ts) (0, 0) _ (fun _ h => below_row h H0.out) Tryd.underlying29 rfl info_sunL (sun_fits _ _ Hh.out Ht.out) (sunC hs ts) (sun_all _ _ Hh.out Ht.out)) hHeld ?_
    simp only [List.setIfInBounds_toArray, List.set_cons_zero, List.set_cons_succ]
    refine wpAnyH_ready (rs := [1]) (by kernel_rfl) (by simp) ?_
    refine AllReadyH.cons rfl (fun K hK => ?_) AllReadyH.nil
    go_simp
    refine (toTreeS_any sv trs hlen _ (trees_below HA.out hHeld)).mono ?_
    rintro e Wa ⟨⟨v3, rfl, hv3⟩, hb1⟩
    have HV3 := Lib.hid (ownT_at hv3)
    clear hv3
    refine hK.out _ _ (hHeld.trans (hb1.mono hHeld.size)) (fun hHeld2 => ?_)
    clear hK K
    replace hHeld := hHeld2
    clear hHeld2
    clear hb1
    refine wpAnyH_ready (rs := [3]) (by kernel_rfl) (by simp) ?_
    refine AllReadyH.cons rfl (fun K hK => ?_) AllReadyH.nil
    go_simp
    refine (toSun_any hs ts Hh.out Ht.out _).mono ?_
    rintro e Wb ⟨rfl, hb2⟩
    replace HV3 := Lib.hid (trees_below HV3.out hb2)
    refine hK.out _ _ (hHeld.trans (hb2.mono hHeld.size)) (fun hHeld2 => ?_)
    clear hK K
    replace hHeld := hHeld2
    clear hHeld2
    clear hb2
    refine wpAnyH_ready (rs := [4]) (by kernel_rfl) (by simp) ?_
    refine AllReadyH.cons rfl (fun K hK => ?_) AllReadyH.nil
    go_simp
    refine (HS.out _ _ HV3.out).mono ?_
    rintro e Wc ⟨rfl, hb3⟩
    refine hK.out _ _ (hHeld.trans (hb3.mono hHeld.size)) (fun hHeld2 => ?_)
    clear hK K
    replace hHeld := hHeld2
    clear hHeld2
    clear hb3 HV3
    refine take_op (i := 5) (d := 16) (v := ?_) rfl rfl (by kernel_rfl) (by kernel_rfl) (by kernel_rfl) (fun _ _ _ h => h) (Or.inl ⟨by rfl, ?hy5y75⟩) hHeld ?rest5y75
    case hy5y75 =>
      intro w' hS'
      go_simp
      try with_reducible rfl
    simp only [List.setIfInBounds_toArray, List.set_cons_zero, List.set_cons_succ]
    refine take_op (i := 6) (d := 22) (v := ?_) rfl rfl (by kernel_rfl) (by kernel_rfl) (by kernel_rfl) (fun _ _ _ h => h) (Or.inl ⟨by rfl, ?hy6y76⟩) hHeld ?rest6y76
    case hy6y76 =>
      intro w' hS'
      go_simp
      try with_reducible rfl
    simp only [List.setIfInBounds_toArray, List.set_cons_zero, List.set_cons_succ]
    refine take_op (i := 7) (d := 23) (v := ?_) rfl rfl (by kernel_rfl) (by kernel_rfl) (by kernel_rfl) (fun _ _ _ h => h) (Or.inl ⟨by rfl, ?hy7y77⟩) hHeld ?rest7y77
    case hy7y77 =>
      intro w' hS'
      go_simp
      try with_reducible rfl
    simp only [List.setIfInBounds_toArray, List.set_cons_zero, List.set_cons_succ]
    refine take_op (i := 8) (d := 6) (v := ?_) rfl rfl (by kernel_rfl) (by kernel_rfl) (by kernel_rfl) (fun _ _ _ h => h) (Or.inl ⟨by rfl, ?hy8y78⟩) hHeld ?rest8y78
    case hy8y78 =>
      intro w' hS'
      go_simp
      try with_reducible rfl
    simp only [List.setIfInBounds_toArray, List.set_cons_zero, List.set_cons_succ]
    refine take_op (i := 9) (d := 7) (v := ?_) rfl rfl (by kernel_rfl) (by kernel_rfl) (by kernel_rfl) (fun _ _ _ h => h) (Or.inl ⟨by rfl, ?hy9y79⟩) hHeld ?rest9y79
    case hy9y79 =>
      intro w' hS'
      go_simp
      try with_reducible rfl
    simp only [List.setIfInBounds_toArray, List.set_cons_zero, List.set_cons_succ]
    refine wpAnyH_done (by kernel_rfl) ?_ _
    replace H0 := Lib.hid (below_row hHeld H0.out)
    replace HA := Lib.hid (trees_below HA.out hHeld)
    replace HX := Lib.hid (errs_below HX.out hHeld)
    replace hb := hb.trans (hHeld.mono hb.size)
    clear hHeld HZ HS
    go_upto_region 7 with (go_at_call 17; refine (toTreeS_any sv trs hlen _ HA.out).mono ?_; rintro e W3 ⟨⟨v6, rfl, hv⟩, hb1⟩; have HV6 := Lib.hid (ownT_at hv); clear hv; replace H0 := Lib.hid (below_row hb1 H0.out); replace HA := Lib.hid (trees_below HA.out hb1); replace HX := Lib.hid (errs_below HX.out hb1); replace hb := hb.trans (hb1.mono hb.size); clear hb1)
    go_upto_region 8 with (first | (refine wpList_load_part rfl 29 _ rfl w.heap.size 0 48 rfl 29 (sunC hs ts) (0, 0) _ H0.out Tryd.underlying29 rfl info_sunL (sun_fits _ _ Hh.out Ht.out) _ (sun_all _ _ Hh.out Ht.out) ?_) | (go_at_call 10; refine (toSun_any hs ts Hh.out Ht.out _).mono ?_; rintro e W4 ⟨rfl, hb1⟩; replace H0 := Lib.hid (below_row hb1 H0.out); replace HA := Lib.hid (trees_below HA.out hb1); replace HX := Lib.hid (errs_below HX.out hb1); replace HV6 := Lib.hid (trees_below HV6.out hb1); replace hb := hb.trans (hb1.mono hb.size); clear hb1) | (go_at_call 21; refine (HI.out _ _ HV6.out HX.out).mono ?_; rintro e W5 ⟨rfl, hb1⟩; replace H0 := Lib.hid (below_row hb1 H0.out); replace HA := Lib.hid (trees_below HA.out hb1); replace HX := Lib.hid (errs_below HX.out hb1); replace HV6 := Lib.hid (trees_below HV6.out hb1); replace hb := hb.trans (hb1.mono hb.size); clear hb1))
    clear HI
    go_wp2_with (first | (go_at_call 17; refine (toTreeS_any sv trs hlen _ HA.out).mono ?_; rintro e W3 ⟨⟨v7, rfl, hv⟩, hb1⟩; have HV7 := Lib.hid (ownT_at hv); clear hv; replace H0 := Lib.hid (below_row hb1 H0.out); replace HA := Lib.hid (trees_below HA.out hb1); replace HX := Lib.hid (errs_below HX.out hb1); replace HV6 := Lib.hid (trees_below HV6.out hb1); replace hb := hb.trans (hb1.mono hb.size); clear hb1) | (go_at_call 19; refine (eqTreeS_any v6 v7 trs _ HV6.out HV7.out).mono ?_; rintro e W9 ⟨rfl, hb1⟩; replace hb := hb.trans (hb1.mono hb.size); clear hb1))
    go_ret
    exact ⟨rfl, hb⟩

theorem FnExactHiddenHours_walk (sv : Value) (trs : List Tr) (hwf : ∀ x ∈ trs, TrWf x) (hs ts : List Int) (hh : hs.length = 24) (ht : ts.length = 24) (rb : ∀ x ∈ hs ++ ts, -32768 ≤ x ∧ x ≤ 32767) (w : World) (hts : TreesAt w sv trs) {e0 e1 e2 e3 : Addr} (hE : ErrsAt w e0 e1 e2 e3) :
    Calls Tryd.prog 5 #[sv, .agg (sunC hs ts)] w fun e w' => e = .returned (.bool true) ∧ Below w.heap.size w w' := by
  by_cases hc : (okTs trs && okB hs ts) = true
  · have ho : okB hs ts = true := by simp at hc; exact hc.2
    have hn : refN (okTs trs && okB hs ts) true true = 0 := by rw [hc]; rfl
    exact lawHiddenHours_core sv trs hs ts hh ht _ 0 e0 e1 e2 e3 (fun d W h => sHh_yes d trs hwf hs ts hh ht rb hn ho W h) (fun d W h k => iHh_yes d trs hwf hs ts hh ht e0 e1 e2 e3 hn ho W h k) w hts hE
  · have hne := refN_ne (v := okTs trs && okB hs ts) (r := true) (f := true) (fun h => hc h.1)
    exact lawHiddenHours_core sv trs hs ts hh ht _ _ e0 e1 e2 e3 (fun d W h => sHh_no d trs hwf hs ts hh ht rb _ rfl hne W h) (fun d W h k => iHh_no d trs hwf hs ts hh ht e0 e1 e2 e3 _ rfl hne W h k) w hts hE

theorem FnExactHiddenAt_walk (sv : Value) (trs : List Tr) (hwf : ∀ x ∈ trs, TrWf x) (hs ts : List Int) (hh : hs.length = 24) (ht : ts.length = 24) (rb : ∀ x ∈ hs ++ ts, -32768 ≤ x ∧ x ≤ 32767) (hour : Int) (w : World) (hts : TreesAt w sv trs) {e0 e1 e2 e3 : Addr} (hE : ErrsAt w e0 e1 e2 e3) :
    Calls Tryd.prog 4 #[sv, .agg (sunC hs ts), .int .i64 hour] w fun e w' => e = .returned (.bool true) ∧ Below w.heap.size w w' := by
  by_cases hc : (okTs trs && okB hs ts) = true ∧ inH hour = true
  · obtain ⟨hc, hih⟩ := hc
    have ho : okB hs ts = true := by simp at hc; exact hc.2
    have hn : refN (okTs trs && okB hs ts) true true = 0 := by rw [hc]; rfl
    have hb := inH_bd hih
    obtain ⟨k, rfl⟩ := Int.eq_ofNat_of_zero_le hb.1
    have hk : k < 24 := by omega
    exact lawHiddenAt_core sv trs hs ts hh ht (k : Int) _ 0 e0 e1 e2 e3 (fun d W h => sHa_yes d trs hwf hs ts hh ht rb k hk hih hn ho W h) (fun d W h q => iHa_yes d trs hwf hs ts hh ht e0 e1 e2 e3 k hk hih hn ho W h q) w hts hE
  · have hne := refN_ne (v := okTs trs && okB hs ts) (r := inH hour) (f := true) (fun h => hc ⟨h.1, h.2.1⟩)
    exact lawHiddenAt_core sv trs hs ts hh ht hour _ _ e0 e1 e2 e3 (fun d W h => sHa_no d trs hwf hs ts hh ht rb hour _ rfl _ rfl hne W h) (fun d W h k => iHa_no d trs hwf hs ts hh ht e0 e1 e2 e3 hour _ rfl _ rfl hne W h k) w hts hE

end Go.Proofs.YtpcmcopfdghdgaaDoor

namespace Go.Proofs.YtpcmcopfdghdgaaDoor
open Go.ChangeShapes Go.WideShapes Go.ChangeAt Go.RowKit

theorem new2_fst (w : World) (a b : Obj) : ((w.alloc a).alloc b).heap[w.heap.size]? = some a := (heap_alloc _ _ _).trans (by rw [if_neg (by simp)]; exact heap_alloc_new _ _)
theorem new2_snd (w : World) (a b : Obj) : ((w.alloc a).alloc b).heap[w.heap.size + 1]? = some b := (heap_alloc _ _ _).trans (by rw [if_pos (by simp)])
theorem new2_below (w : World) (a b : Obj) : Below w.heap.size w ((w.alloc a).alloc b) := ((Below.refl _ _).alloc (Nat.le_refl _) _).alloc (by simp) _

set_option maxRecDepth 100000 in
set_option maxHeartbeats 1000000 in
theorem eqArr_same (xs : List Int) (hx : xs.length = 24) (w : World) :
    Calls Tryd.prog 54 #[.agg (i16s xs), .agg (i16s xs)] w fun e w' => e = .returned (.bool true) ∧ Below w.heap.size w w' := by
  have Hx := Lib.hid hx
  clear hx
  go_enter Tryd.func54, Tryd.ntmps54
  go_upto_region 1 with (fail)
  refine abs_code (fun W => Below w.heap.size w W ∧ W.heap[w.heap.size]? = some (.cells (i16s xs) 27 (0, 0)) ∧ W.heap[w.heap.size + 1]? = some (.cells (i16s xs) 27 (0, 0))) ⟨new2_below _ _ _, new2_fst _ _ _, new2_snd _ _ _⟩ ?_
  rintro W ⟨hb, h0, h1⟩
  have H0 := Lib.hid h0
  have H1 := Lib.hid h1
  clear h0 h1
  go_wp2
  go_loopw [5] (fun i wr => ∃ k : Nat, k ≤ 24 ∧ i = .int .i64 k ∧ Below w.heap.size w wr ∧ wr.heap[w.heap.size]? = some (.cells (i16s xs) 27 (0, 0)) ∧ wr.heap[w.heap.size + 1]? = some (.cells (i16s xs) 27 (0, 0))) (fun i _ => 24 - (intOf i).toNat)
  case atStart => exact ⟨0, Nat.zero_le _, rfl, hb, H0.out, H1.out⟩
  case round =>
    clear hb H0 H1
    obtain ⟨k, hk, rfl, hb, h0, h1⟩ := hrel
    have H0 := Lib.hid h0
    have H1 := Lib.hid h1
    by_cases hlt : k < 24
    · have c0 := cell_of_i16s h0 k (by rw [Hx.out]; exact hlt)
      have c1 := cell_of_i16s h1 k (by rw [Hx.out]; exact hlt)
      clear h0 h1
      go_wp2
      go_quiet (fail)
      go_wp2
      go_roundw
      case rel => exact ⟨k + 1, by omega, by go_num, ⟨hb.os, hb.tape, hb.output, hb.size, hb.block⟩, H0.out, H1.out⟩
      case measure => simp [intOf]; omega
    · obtain rfl : k = 24 := by omega
      clear h0 h1
      go_wp2
      go_ret
      exact ⟨rfl, hb⟩

set_option maxRecDepth 100000 in
set_option maxHeartbeats 1000000 in
theorem eqSun_same (hs ts : List Int) (hh : hs.length = 24) (ht : ts.length = 24) (w : World) :
    Calls Tryd.prog 24 #[.agg (sunC hs ts), .agg (sunC hs ts)] w fun e w' => e = .returned (.bool true) ∧ Below w.heap.size w w' := by
  have Hh := Lib.hid hh
  have Ht := Lib.hid ht
  clear hh ht
  go_enter Tryd.func24, Tryd.ntmps24
  go_upto_region 1 with (fail)
  generalize he : w.heap.size + 1 = b1
  refine abs_code (fun W => Below w.heap.size w W ∧ W.heap[w.heap.size]? = some (.cells (sunC hs ts) 37 (0, 0)) ∧ W.heap[b1]? = some (.cells (sunC hs ts) 37 (0, 0))) ⟨new2_below _ _ _, new2_fst _ _ _, he ▸ new2_snd _ _ _⟩ ?_
  rintro W ⟨hb, h0, h1⟩
  have H0 := Lib.hid h0
  have H1 := Lib.hid h1
  clear h0 h1 he
  go_upto_region 3 with (first | (refine wpList_load_part rfl 27 _ rfl w.heap.size 0 24 rfl 37 (sunC hs ts) (0, 0) _ H0.out Tryd.underlying27 rfl info_arr (by rw [sunC_size _ _ Hh.out Ht.out]; decide) (i16s hs) (sunC_fst hs ts Hh.out) ?_) | (refine wpList_load_part rfl 27 _ rfl b1 0 24 rfl 37 (sunC hs ts) (0, 0) _ H1.out Tryd.underlying27 rfl info_arr (by rw [sunC_size _ _ Hh.out Ht.out]; decide) (i16s hs) (sunC_fst hs ts Hh.out) ?_) | (go_at_call 54; refine (eqArr_same hs Hh.out _).mono ?_; rintro e W2 ⟨rfl, hb1⟩; replace H0 := Lib.hid (below_row hb1 H0.out); replace H1 := Lib.hid (below_row hb1 H1.out); replace hb := hb.trans (hb1.mono hb.size); clear hb1))
  go_wp2_with (first | (refine wpList_load_part rfl 27 _ rfl w.heap.size 24 24 rfl 37 (sunC hs ts) (0, 0) _ H0.out Tryd.underlying27 rfl info_arr (by rw [sunC_size _ _ Hh.out Ht.out]; decide) (i16s ts) (sunC_snd hs ts Hh.out Ht.out) ?_) | (refine wpList_load_part rfl 27 _ rfl b1 24 24 rfl 37 (sunC hs ts) (0, 0) _ H1.out Tryd.underlying27 rfl info_arr (by rw [sunC_size _ _ Hh.out Ht.out]; decide) (i16s ts) (sunC_snd hs ts Hh.out Ht.out) ?_) | (go_at_call 54; refine (eqArr_same ts Ht.out _).mono ?_; rintro e W2 ⟨rfl, hb1⟩; replace H0 := Lib.hid (below_row hb1 H0.out); replace H1 := Lib.hid (below_row hb1 H1.out); replace hb := hb.trans (hb1.mono hb.size); clear hb1))
  go_ret
  exact ⟨rfl, hb⟩

end Go.Proofs.YtpcmcopfdghdgaaDoor

namespace Go.Proofs.YtpcmcopfdghdgaaDoor
open Go.ChangeShapes Go.WideShapes Go.ChangeAt Go.RowKit

theorem laid_new (W : World) (old cs : Array Value) {t : TypeId} : ((W.alloc (.cells old t)).setRow W.heap.size cs).heap[W.heap.size]? = some (.cells cs t (0, 0)) := setRow_heap _ _ _ _ _ _ (heap_alloc_new _ _)
theorem laid_old {W : World} (old cs : Array Value) {t : TypeId} {g : Nat} {o : Obj} (h : W.heap[g]? = some o) : ((W.alloc (.cells old t)).setRow W.heap.size cs).heap[g]? = some o :=
  (setRow_other _ _ _ _ (Nat.ne_of_lt (row_lt h))).trans ((((Below.refl W.heap.size W).alloc (Nat.le_refl _) (.cells old t)).block g (row_lt h)).trans h)

end Go.Proofs.YtpcmcopfdghdgaaDoor

namespace Go.Proofs.YtpcmcopfdghdgaaDoor
open Go.ChangeShapes Go.WideShapes Go.ChangeAt Go.RowKit

theorem info_zz : (Tryd.prog.info? 37).map (·.size) = some (sunC zer zer).size := by kernel_rfl
theorem sun_set_h {W : World} {g : Nat} {a b : List Int} {t : TypeId} (h : W.heap[g]? = some (.cells (sunC a b) t (0, 0))) (k : Nat) (hk : k < a.length) (x : Int) : (W.setCell ⟨g, k, none⟩ (.int .i16 x)).heap[g]? = some (.cells (sunC (a.set k x) b) t (0, 0)) := by
  rw [heap_setCell_same _ _ _ _ _ _ h, sunC, i16s_set, List.set_append_left _ _ hk]; rfl
theorem sun_set_t {W : World} {g : Nat} {a b : List Int} {t : TypeId} (h : W.heap[g]? = some (.cells (sunC a b) t (0, 0))) (ha : a.length = 24) (k : Nat) (x : Int) : (W.setCell ⟨g, 24 + k, none⟩ (.int .i16 x)).heap[g]? = some (.cells (sunC a (b.set k x)) t (0, 0)) := by
  rw [heap_setCell_same _ _ _ _ _ _ h, sunC, i16s_set, List.set_append_right _ _ (by omega), ha, Nat.add_sub_cancel_left]; rfl
theorem results_sun {fn : Func} {p u : Tmp} (h : fn.results = #[.cell p 37, .tmp u]) (tmps : Array Value) (w : World) (g : Nat) (a b : List Int) (ha : a.length = 24) (hb : b.length = 24) (hp : tmps.getD p undef = .pointer (some ⟨g, 0, none⟩)) (hg : w.heap[g]? = some (.cells (sunC a b) 37 (0, 0))) :
    (results fn tmps).run Tryd.prog w = .ok (.tuple #[.agg (sunC a b), tmps.getD u undef]) w := by
  rw [results_cell_tmp h, hp]
  have e := run_loadVar_row w g 37 37 (sunC a b) (0, 0) _ hg Tryd.underlying37 rfl (by rw [sunC_size _ _ ha hb]; exact info_sun)
  simp only [asAddr, Sem.run_pure, Result.andThen_ok, e]

/-- Each hour's numbers are those of the hour on the other side of noon. -/
def Mirrors (hs ts a b : List Int) (k : Nat) : Prop := ∀ j, j < k → a[j]?.getD 0 = hs[23 - j]?.getD 0 ∧ b[j]?.getD 0 = angB (-(ts[23 - j]?.getD 0))
def mirH (hs : List Int) : List Int := (List.range 24).map (fun j => hs[23 - j]?.getD 0)
def mirT (ts : List Int) : List Int := (List.range 24).map (fun j => angB (-(ts[23 - j]?.getD 0)))
theorem mirH_len (hs : List Int) : (mirH hs).length = 24 := by simp [mirH]
theorem mirT_len (ts : List Int) : (mirT ts).length = 24 := by simp [mirT]
theorem list_of_getD {a : List Int} (ha : a.length = 24) {g : Nat → Int} (h : ∀ j, j < 24 → a[j]?.getD 0 = g j) : a = (List.range 24).map g := by
  apply List.ext_getElem (by simp [ha])
  intro i h1 h2
  have := h i (by omega)
  rw [List.getElem?_eq_getElem h1, Option.getD_some] at this
  simp [this]
theorem mirrors_all {hs ts a b : List Int} (ha : a.length = 24) (hb : b.length = 24) (h : Mirrors hs ts a b 24) : a = mirH hs ∧ b = mirT ts :=
  ⟨list_of_getD ha (fun j hj => (h j hj).1), list_of_getD hb (fun j hj => (h j hj).2)⟩
theorem set_getD (a : List Int) (k : Nat) (x : Int) (hk : k < a.length) (j : Nat) : (a.set k x)[j]?.getD 0 = if j = k then x else a[j]?.getD 0 := by
  rw [List.getElem?_set]
  by_cases e : k = j
  · subst e; simp [hk]
  · rw [if_neg e, if_neg (fun h => e h.symm)]
theorem mirrors_step {hs ts a b : List Int} {k m : Nat} (ha : a.length = 24) (hb : b.length = 24) (hk : k < 24) (hm : m + k = 23) (h : Mirrors hs ts a b k) : Mirrors hs ts (a.set k (hs[m]?.getD 0)) (b.set k (angB (-(ts[m]?.getD 0)))) (k + 1) := by
  intro j hj
  rw [set_getD _ _ _ (by omega), set_getD _ _ _ (by omega)]
  by_cases e : j = k
  · have : 23 - j = m := by omega
    rw [if_pos e, if_pos e, this]; exact ⟨rfl, rfl⟩
  · rw [if_neg e, if_neg e]; exact h j (by omega)

end Go.Proofs.YtpcmcopfdghdgaaDoor
