/-
  The next order in memory: the program.
-/
import Derived.Test.YtjpnbcfdnolcjabGoA
namespace Go.Proofs.Ytjpnbcfdnolcjab
open Go.ChangeShapes Go.WideShapes Go.ChangeAt Go.RowKit Go.Deep Go.Joins

attribute [local go_sem] run_store_f

theorem turn_step (o : List Nat) (s : Nat) : turnN o (s + 1) = if o.getD (s + 1) 0 < o.getD s 0 then turnN o s else s + 1 := rfl

theorem next_step (o : List Nat) (v k : Nat) : nextN o v (k + 1) = if o.getD (k + 1) 0 < v then nextN o v k else k + 1 := rfl

theorem next_stop {o : List Nat} {v k : Nat} (h : ¬ o.getD k 0 < v) : nextN o v k = k := by
  cases k with
  | zero => rfl
  | succ k => rw [next_step, if_neg h]

theorem adv_none {o : List Nat} (h : turnN o (o.length - 1) = 0) : advS o = none := by rw [advS, if_pos h]

theorem adv_some {o : List Nat} {s k : Nat} (h : turnN o (o.length - 1) = s + 1) (h2 : nextN o (o.getD s 0) (o.length - 1) = k) : advS o = some (revT (swapP o s k) (s + 1)) := by
  rw [advS, if_neg (by omega), h, Nat.add_sub_cancel, h2]; rfl

theorem abs_exit {P : Exit → Act → World → Prop} {e : Exit} {a : Act} {w : World} (R : World → Prop) (hw : R w) (h : ∀ W, R W → P e a W) : P e a w := h w hw

def AdvRet (o : List Nat) (g : Nat) (W : World) (e : Ending) (W' : World) : Prop := e = .returned (.bool (advS o).isSome) ∧ IRow W' g ((advS o).getD o) ∧ W.grownBy W' (some g)

theorem below_grown6 {W W' : World} (h : Below W.heap.size W W') (g : Nat) : W.grownBy W' (some g) := grown_of_below h _

theorem adv_no {o : List Nat} {g : Nat} {W W' : World} (h : advS o = none) (hr : IRow W g o) (hb : Below W.heap.size W W') : AdvRet o g W (.returned (.bool false)) W' := ⟨by rw [h]; rfl, by rw [h]; exact irow_keep hr hb, below_grown6 hb g⟩

theorem adv_yes {o o' : List Nat} {g : Nat} {W W' : World} (h : advS o = some o') (hr : IRow W' g o') (hb : W.grownBy W' (some g)) : AdvRet o g W (.returned (.bool true)) W' := ⟨by rw [h]; rfl, by rw [h]; exact hr, hb⟩

set_option maxRecDepth 100000 in
set_option maxHeartbeats 16000000 in
theorem advance_any (o : List Nat) (g : Nat) (h1 : 1 ≤ o.length) (h48 : o.length ≤ 48) (W : World) (h : IRow W g o) :
    Calls Try.prog 62 #[.slice (some ⟨g, 0, none⟩) o.length o.length] W (AdvRet o g W) := by
  have HR := Lib.hid h
  have HNO := Lib.hid (fun (h : turnN o (o.length - 1) = 0) => adv_none h)
  have HYES := Lib.hid (fun s k (h : turnN o (o.length - 1) = s + 1) (h2 : nextN o (o.getD s 0) (o.length - 1) = k) => adv_some h h2)
  have HC := Lib.hid (fun V (hb : Below W.heap.size W V) j (hj : j < o.length) => irow_cell (irow_keep h hb) hj)
  have HREV0 := Lib.hid (fun V s k (hH : Go.Sort.Holds encN V g (s + 1) ((swapP o s k).drop (s + 1)).toArray) => AnyE.slices_Reverse layRevI encN (fun _ => rfl) g (s + 1) ((swapP o s k).drop (s + 1)).length ((swapP o s k).drop (s + 1)) V hH (by simp [swapP]; try omega))
  have HSL : Hid (∀ s k, ((swapP o s k).drop (s + 1)).length = o.length - (s + 1)) := Lib.hid (fun s k => by simp [swapP])
  clear h
  generalize hn : o.length = n at *
  have HN := Lib.hid hn
  clear hn
  go_enter Try.func62, Try.ntmps62
  go_wp2
  go_loopw [3] (fun i wr => ∃ (t : Nat) (z : Int), i = .int .i64 z ∧ z = (t : Int) - 1 ∧ t + 1 ≤ n ∧ turnN o (n - 1) = turnN o t ∧ Below W.heap.size W wr) (fun i _ => (intOf i + 1).toNat)
  case atStart => exact ⟨n - 1, (n : Int) - 2, rfl, by omega, by omega, rfl, Below.refl _ _⟩
  case round =>
    obtain ⟨t, z, rfl, hz, ht, htn, hb⟩ := hrel
    have HTN := Lib.hid htn
    clear htn
    cases t with
    | zero =>
      obtain rfl : z = -1 := by omega
      have HADV := Lib.hid (HNO.out (by rw [HTN.out]; rfl))
      clear hz
      go_wp2
      refine wp_region_held_drew (S := (fun V => Below W.heap.size W V)) (by kernel_rfl) hb.drew (fun hHeld => ?_)
      refine take_op (i := 0) (d := 8) (v := ?_) rfl rfl (by kernel_rfl) (by kernel_rfl) (by kernel_rfl) (fun _ _ _ h => h) (Or.inl ⟨by rfl, ?hy0u1⟩) hHeld ?rest0u1
      case hy0u1 =>
        intro w' hS'
        go_simp
        try with_reducible rfl
      simp only [List.setIfInBounds_toArray, List.set_cons_zero, List.set_cons_succ]
      refine take_op (i := 1) (d := 9) (v := ?_) rfl rfl (by kernel_rfl) (by kernel_rfl) (by kernel_rfl) (fun _ _ _ h => h) (Or.inl ⟨by rfl, ?hy1u2⟩) hHeld ?rest1u2
      case hy1u2 =>
        intro w' hS'
        go_simp
        try with_reducible rfl
      simp only [List.setIfInBounds_toArray, List.set_cons_zero, List.set_cons_succ]
      refine take_op (i := 2) (d := 10) (v := ?_) rfl rfl (by kernel_rfl) (by kernel_rfl) (by kernel_rfl) (fun _ _ _ h => h) (Or.inl ⟨by rfl, ?hy2u3⟩) hHeld ?rest2u3
      case hy2u3 =>
        intro w' hS'
        go_simp
        try with_reducible rfl
      simp only [List.setIfInBounds_toArray, List.set_cons_zero, List.set_cons_succ]
      refine take_op (i := 3) (d := 11) rfl rfl (by kernel_rfl) (by kernel_rfl) (by kernel_rfl) (fun _ _ _ h => h) (Or.inr ⟨by rfl, rfl⟩) hHeld ?_
      simp only [List.setIfInBounds_toArray, List.set_cons_zero, List.set_cons_succ]
      refine take_op (i := 4) (d := 12) rfl rfl (by kernel_rfl) (by kernel_rfl) (by kernel_rfl) (fun _ _ _ h => h) (Or.inr ⟨by rfl, rfl⟩) hHeld ?_
      simp only [List.setIfInBounds_toArray, List.set_cons_zero, List.set_cons_succ]
      refine take_op (i := 5) (d := 13) rfl rfl (by kernel_rfl) (by kernel_rfl) (by kernel_rfl) (fun _ _ _ h => h) (Or.inr ⟨by rfl, rfl⟩) hHeld ?_
      simp only [List.setIfInBounds_toArray, List.set_cons_zero, List.set_cons_succ]
      refine take_op (i := 6) (d := 14) rfl rfl (by kernel_rfl) (by kernel_rfl) (by kernel_rfl) (fun _ _ _ h => h) (Or.inr ⟨by rfl, rfl⟩) hHeld ?_
      simp only [List.setIfInBounds_toArray, List.set_cons_zero, List.set_cons_succ]
      refine take_op (i := 7) (d := 15) rfl rfl (by kernel_rfl) (by kernel_rfl) (by kernel_rfl) (fun _ _ _ h => h) (Or.inr ⟨by rfl, rfl⟩) hHeld ?_
      simp only [List.setIfInBounds_toArray, List.set_cons_zero, List.set_cons_succ]
      refine take_op (i := 8) (d := 16) rfl rfl (by kernel_rfl) (by kernel_rfl) (by kernel_rfl) (fun _ _ _ h => h) (Or.inr ⟨by rfl, rfl⟩) hHeld ?_
      simp only [List.setIfInBounds_toArray, List.set_cons_zero, List.set_cons_succ]
      refine take_op (i := 9) (d := 17) rfl rfl (by kernel_rfl) (by kernel_rfl) (by kernel_rfl) (fun _ _ _ h => h) (Or.inr ⟨by rfl, rfl⟩) hHeld ?_
      simp only [List.setIfInBounds_toArray, List.set_cons_zero, List.set_cons_succ]
      refine take_op (i := 10) (d := 18) rfl rfl (by kernel_rfl) (by kernel_rfl) (by kernel_rfl) (fun _ _ _ h => h) (Or.inr ⟨by rfl, rfl⟩) hHeld ?_
      simp only [List.setIfInBounds_toArray, List.set_cons_zero, List.set_cons_succ]
      refine take_op (i := 11) (d := 19) rfl rfl (by kernel_rfl) (by kernel_rfl) (by kernel_rfl) (fun _ _ _ h => h) (Or.inr ⟨by rfl, rfl⟩) hHeld ?_
      simp only [List.setIfInBounds_toArray, List.set_cons_zero, List.set_cons_succ]
      refine take_op (i := 12) (d := 20) rfl rfl (by kernel_rfl) (by kernel_rfl) (by kernel_rfl) (fun _ _ _ h => h) (Or.inr ⟨by rfl, rfl⟩) hHeld ?_
      simp only [List.setIfInBounds_toArray, List.set_cons_zero, List.set_cons_succ]
      refine take_op (i := 13) (d := 21) (v := ?_) rfl rfl (by kernel_rfl) (by kernel_rfl) (by kernel_rfl) (fun _ _ _ h => h) (Or.inl ⟨by rfl, ?hy13u4⟩) hHeld ?rest13u4
      case hy13u4 =>
        intro w' hS'
        go_simp
        try with_reducible rfl
      simp only [List.setIfInBounds_toArray, List.set_cons_zero, List.set_cons_succ]
      refine wpAnyH_done (by kernel_rfl) ?_ _
      have hbx := hHeld
      clear hHeld hb
      go_wp2
      go_ret
      exact adv_no HADV.out HR.out hbx
    | succ s =>
      obtain rfl : z = (s : Int) := by omega
      have c1 := (HC.out wr hb s (by omega)).1
      have c2 := (HC.out wr hb (s + 1) (by omega)).1
      have HT := Lib.hid (turn_step o s)
      have HYS := Lib.hid (HYES.out s)
      have z1 : (s : Int) < (n : Int) := by omega
      have z2 : (0 : Int) ≤ (s : Int) := by omega
      have z3 : (s : Int) + 1 < (n : Int) := by omega
      have z4 : (0 : Int) ≤ (s : Int) + 1 := by omega
      have z5 : decide ((0 : Int) ≤ (s : Int)) = true := decide_eq_true z2
      have z6 : IntKind.i64.wrap ((s : Int) + 1) = (s : Int) + 1 := IntWalk.i64_in _ (by omega)
      clear hz
      generalize hxa : o.getD s 0 = xa at *
      generalize o.getD (s + 1) 0 = xb at *
      have HXA := Lib.hid hxa
      clear hxa
      by_cases hc : xb < xa
      · have z7 : decide ((xb : Int) < (xa : Int)) = true := decide_eq_true (by omega)
        have HE := Lib.hid (HTN.out.trans (HT.out.trans (if_pos hc)))
        go_wp2
        refine wp_region_held_drew (S := (fun V => V.cell? ⟨g, s, none⟩ = some (.int .i64 (xa : Int)) ∧ V.cell? ⟨g, s + 1, none⟩ = some (.int .i64 (xb : Int)) ∧ Below W.heap.size W V)) (by kernel_rfl) ⟨by simpa using c1, by simpa using c2, hb.drew⟩ (fun hHeld => ?_)
        refine take_op (i := 0) (d := 8) (v := ?_) rfl rfl (by kernel_rfl) (by kernel_rfl) (by kernel_rfl) (fun _ _ _ h => h) (Or.inl ⟨by rfl, ?hy0u5⟩) hHeld ?rest0u5
        case hy0u5 =>
          intro w' hS'
          obtain ⟨s1, s2, _⟩ := hS'
          go_simp
          try with_reducible rfl
        simp only [List.setIfInBounds_toArray, List.set_cons_zero, List.set_cons_succ]
        refine take_op (i := 1) (d := 9) (v := ?_) rfl rfl (by kernel_rfl) (by kernel_rfl) (by kernel_rfl) (fun _ _ _ h => h) (Or.inl ⟨by rfl, ?hy1u6⟩) hHeld ?rest1u6
        case hy1u6 =>
          intro w' hS'
          obtain ⟨s1, s2, _⟩ := hS'
          go_simp
          try with_reducible rfl
        simp only [List.setIfInBounds_toArray, List.set_cons_zero, List.set_cons_succ]
        refine take_op (i := 2) (d := 10) (v := ?_) rfl rfl (by kernel_rfl) (by kernel_rfl) (by kernel_rfl) (fun _ _ _ h => h) (Or.inl ⟨by rfl, ?hy2u7⟩) hHeld ?rest2u7
        case hy2u7 =>
          intro w' hS'
          obtain ⟨s1, s2, _⟩ := hS'
          go_simp
          try with_reducible rfl
        simp only [List.setIfInBounds_toArray, List.set_cons_zero, List.set_cons_succ]
        refine take_op (i := 3) (d := 11) (v := ?_) rfl rfl (by kernel_rfl) (by kernel_rfl) (by kernel_rfl) (fun _ _ _ h => h) (Or.inl ⟨by rfl, ?hy3u8⟩) hHeld ?rest3u8
        case hy3u8 =>
          intro w' hS'
          obtain ⟨s1, s2, _⟩ := hS'
          go_simp
          try with_reducible rfl
        simp only [List.setIfInBounds_toArray, List.set_cons_zero, List.set_cons_succ]
        refine take_op (i := 4) (d := 12) (v := ?_) rfl rfl (by kernel_rfl) (by kernel_rfl) (by kernel_rfl) (fun _ _ _ h => h) (Or.inl ⟨by rfl, ?hy4u9⟩) hHeld ?rest4u9
        case hy4u9 =>
          intro w' hS'
          obtain ⟨s1, s2, _⟩ := hS'
          go_simp
          try with_reducible rfl
        simp only [List.setIfInBounds_toArray, List.set_cons_zero, List.set_cons_succ]
        refine take_op (i := 5) (d := 13) (v := ?_) rfl rfl (by kernel_rfl) (by kernel_rfl) (by kernel_rfl) (fun _ _ _ h => h) (Or.inl ⟨by rfl, ?hy5u10⟩) hHeld ?rest5u10
        case hy5u10 =>
          intro w' hS'
          obtain ⟨s1, s2, _⟩ := hS'
          go_simp
          try with_reducible rfl
        simp only [List.setIfInBounds_toArray, List.set_cons_zero, List.set_cons_succ]
        refine take_op (i := 6) (d := 14) (v := ?_) rfl rfl (by kernel_rfl) (by kernel_rfl) (by kernel_rfl) (fun _ _ _ h => h) (Or.inl ⟨by rfl, ?hy6u11⟩) hHeld ?rest6u11
        case hy6u11 =>
          intro w' hS'
          obtain ⟨s1, s2, _⟩ := hS'
          go_simp
          try with_reducible rfl
        simp only [List.setIfInBounds_toArray, List.set_cons_zero, List.set_cons_succ]
        refine take_op (i := 7) (d := 15) (v := ?_) rfl rfl (by kernel_rfl) (by kernel_rfl) (by kernel_rfl) (fun _ _ _ h => h) (Or.inl ⟨by rfl, ?hy7u12⟩) hHeld ?rest7u12
        case hy7u12 =>
          intro w' hS'
          obtain ⟨s1, s2, _⟩ := hS'
          go_simp
          try with_reducible rfl
        simp only [List.setIfInBounds_toArray, List.set_cons_zero, List.set_cons_succ]
        refine take_op (i := 8) (d := 16) (v := ?_) rfl rfl (by kernel_rfl) (by kernel_rfl) (by kernel_rfl) (fun _ _ _ h => h) (Or.inl ⟨by rfl, ?hy8u13⟩) hHeld ?rest8u13
        case hy8u13 =>
          intro w' hS'
          obtain ⟨s1, s2, _⟩ := hS'
          go_simp
          try with_reducible rfl
        simp only [List.setIfInBounds_toArray, List.set_cons_zero, List.set_cons_succ]
        refine take_op (i := 9) (d := 17) (v := ?_) rfl rfl (by kernel_rfl) (by kernel_rfl) (by kernel_rfl) (fun _ _ _ h => h) (Or.inl ⟨by rfl, ?hy9u14⟩) hHeld ?rest9u14
        case hy9u14 =>
          intro w' hS'
          obtain ⟨s1, s2, _⟩ := hS'
          go_simp
          try with_reducible rfl
        simp only [List.setIfInBounds_toArray, List.set_cons_zero, List.set_cons_succ]
        refine take_op (i := 10) (d := 18) (v := ?_) rfl rfl (by kernel_rfl) (by kernel_rfl) (by kernel_rfl) (fun _ _ _ h => h) (Or.inl ⟨by rfl, ?hy10u15⟩) hHeld ?rest10u15
        case hy10u15 =>
          intro w' hS'
          obtain ⟨s1, s2, _⟩ := hS'
          go_simp
          try with_reducible rfl
        simp only [List.setIfInBounds_toArray, List.set_cons_zero, List.set_cons_succ]
        refine take_op (i := 11) (d := 19) (v := ?_) rfl rfl (by kernel_rfl) (by kernel_rfl) (by kernel_rfl) (fun _ _ _ h => h) (Or.inl ⟨by rfl, ?hy11u16⟩) hHeld ?rest11u16
        case hy11u16 =>
          intro w' hS'
          obtain ⟨s1, s2, _⟩ := hS'
          go_simp
          try with_reducible rfl
        simp only [List.setIfInBounds_toArray, List.set_cons_zero, List.set_cons_succ]
        refine take_op (i := 12) (d := 20) (v := ?_) rfl rfl (by kernel_rfl) (by kernel_rfl) (by kernel_rfl) (fun _ _ _ h => h) (Or.inl ⟨by rfl, ?hy12u17⟩) hHeld ?rest12u17
        case hy12u17 =>
          intro w' hS'
          obtain ⟨s1, s2, _⟩ := hS'
          go_simp
          try with_reducible rfl
        simp only [List.setIfInBounds_toArray, List.set_cons_zero, List.set_cons_succ]
        refine take_op (i := 13) (d := 21) (v := ?_) rfl rfl (by kernel_rfl) (by kernel_rfl) (by kernel_rfl) (fun _ _ _ h => h) (Or.inl ⟨by rfl, ?hy13u18⟩) hHeld ?rest13u18
        case hy13u18 =>
          intro w' hS'
          obtain ⟨s1, s2, _⟩ := hS'
          go_simp
          try with_reducible rfl
        simp only [List.setIfInBounds_toArray, List.set_cons_zero, List.set_cons_succ]
        refine wpAnyH_done (by kernel_rfl) ?_ _
        have hbx := hHeld.2.2
        clear hHeld hb c1 c2
        go_wp2
        go_roundw
        case rel => exact ⟨s, (s : Int) - 1, rfl, rfl, by omega, HE.out, hbx⟩
        case measure => first | (simp [intOf]; done) | (simp [intOf]; omega)
      · have z7 : decide ((xb : Int) < (xa : Int)) = false := decide_eq_false (by omega)
        have HE := Lib.hid (HTN.out.trans (HT.out.trans (if_neg hc)))
        have HYK := Lib.hid (HYS.out · HE.out)
        have hsn : s + 1 < n := by omega
        clear HT HYS HTN
        go_wp2
        refine wp_region_held_drew (S := (fun V => V.cell? ⟨g, s, none⟩ = some (.int .i64 (xa : Int)) ∧ V.cell? ⟨g, s + 1, none⟩ = some (.int .i64 (xb : Int)) ∧ Below W.heap.size W V)) (by kernel_rfl) ⟨by simpa using c1, by simpa using c2, hb.drew⟩ (fun hHeld => ?_)
        refine take_op (i := 0) (d := 8) (v := ?_) rfl rfl (by kernel_rfl) (by kernel_rfl) (by kernel_rfl) (fun _ _ _ h => h) (Or.inl ⟨by rfl, ?hy0u19⟩) hHeld ?rest0u19
        case hy0u19 =>
          intro w' hS'
          obtain ⟨s1, s2, _⟩ := hS'
          go_simp
          try with_reducible rfl
        simp only [List.setIfInBounds_toArray, List.set_cons_zero, List.set_cons_succ]
        refine take_op (i := 1) (d := 9) (v := ?_) rfl rfl (by kernel_rfl) (by kernel_rfl) (by kernel_rfl) (fun _ _ _ h => h) (Or.inl ⟨by rfl, ?hy1u20⟩) hHeld ?rest1u20
        case hy1u20 =>
          intro w' hS'
          obtain ⟨s1, s2, _⟩ := hS'
          go_simp
          try with_reducible rfl
        simp only [List.setIfInBounds_toArray, List.set_cons_zero, List.set_cons_succ]
        refine take_op (i := 2) (d := 10) (v := ?_) rfl rfl (by kernel_rfl) (by kernel_rfl) (by kernel_rfl) (fun _ _ _ h => h) (Or.inl ⟨by rfl, ?hy2u21⟩) hHeld ?rest2u21
        case hy2u21 =>
          intro w' hS'
          obtain ⟨s1, s2, _⟩ := hS'
          go_simp
          try with_reducible rfl
        simp only [List.setIfInBounds_toArray, List.set_cons_zero, List.set_cons_succ]
        refine take_op (i := 3) (d := 11) (v := ?_) rfl rfl (by kernel_rfl) (by kernel_rfl) (by kernel_rfl) (fun _ _ _ h => h) (Or.inl ⟨by rfl, ?hy3u22⟩) hHeld ?rest3u22
        case hy3u22 =>
          intro w' hS'
          obtain ⟨s1, s2, _⟩ := hS'
          go_simp
          try with_reducible rfl
        simp only [List.setIfInBounds_toArray, List.set_cons_zero, List.set_cons_succ]
        refine take_op (i := 4) (d := 12) (v := ?_) rfl rfl (by kernel_rfl) (by kernel_rfl) (by kernel_rfl) (fun _ _ _ h => h) (Or.inl ⟨by rfl, ?hy4u23⟩) hHeld ?rest4u23
        case hy4u23 =>
          intro w' hS'
          obtain ⟨s1, s2, _⟩ := hS'
          go_simp
          try with_reducible rfl
        simp only [List.setIfInBounds_toArray, List.set_cons_zero, List.set_cons_succ]
        refine take_op (i := 5) (d := 13) (v := ?_) rfl rfl (by kernel_rfl) (by kernel_rfl) (by kernel_rfl) (fun _ _ _ h => h) (Or.inl ⟨by rfl, ?hy5u24⟩) hHeld ?rest5u24
        case hy5u24 =>
          intro w' hS'
          obtain ⟨s1, s2, _⟩ := hS'
          go_simp
          try with_reducible rfl
        simp only [List.setIfInBounds_toArray, List.set_cons_zero, List.set_cons_succ]
        refine take_op (i := 6) (d := 14) (v := ?_) rfl rfl (by kernel_rfl) (by kernel_rfl) (by kernel_rfl) (fun _ _ _ h => h) (Or.inl ⟨by rfl, ?hy6u25⟩) hHeld ?rest6u25
        case hy6u25 =>
          intro w' hS'
          obtain ⟨s1, s2, _⟩ := hS'
          go_simp
          try with_reducible rfl
        simp only [List.setIfInBounds_toArray, List.set_cons_zero, List.set_cons_succ]
        refine take_op (i := 7) (d := 15) (v := ?_) rfl rfl (by kernel_rfl) (by kernel_rfl) (by kernel_rfl) (fun _ _ _ h => h) (Or.inl ⟨by rfl, ?hy7u26⟩) hHeld ?rest7u26
        case hy7u26 =>
          intro w' hS'
          obtain ⟨s1, s2, _⟩ := hS'
          go_simp
          try with_reducible rfl
        simp only [List.setIfInBounds_toArray, List.set_cons_zero, List.set_cons_succ]
        refine take_op (i := 8) (d := 16) (v := ?_) rfl rfl (by kernel_rfl) (by kernel_rfl) (by kernel_rfl) (fun _ _ _ h => h) (Or.inl ⟨by rfl, ?hy8u27⟩) hHeld ?rest8u27
        case hy8u27 =>
          intro w' hS'
          obtain ⟨s1, s2, _⟩ := hS'
          go_simp
          try with_reducible rfl
        simp only [List.setIfInBounds_toArray, List.set_cons_zero, List.set_cons_succ]
        refine take_op (i := 9) (d := 17) (v := ?_) rfl rfl (by kernel_rfl) (by kernel_rfl) (by kernel_rfl) (fun _ _ _ h => h) (Or.inl ⟨by rfl, ?hy9u28⟩) hHeld ?rest9u28
        case hy9u28 =>
          intro w' hS'
          obtain ⟨s1, s2, _⟩ := hS'
          go_simp
          try with_reducible rfl
        simp only [List.setIfInBounds_toArray, List.set_cons_zero, List.set_cons_succ]
        refine take_op (i := 10) (d := 18) (v := ?_) rfl rfl (by kernel_rfl) (by kernel_rfl) (by kernel_rfl) (fun _ _ _ h => h) (Or.inl ⟨by rfl, ?hy10u29⟩) hHeld ?rest10u29
        case hy10u29 =>
          intro w' hS'
          obtain ⟨s1, s2, _⟩ := hS'
          go_simp
          try with_reducible rfl
        simp only [List.setIfInBounds_toArray, List.set_cons_zero, List.set_cons_succ]
        refine take_op (i := 11) (d := 19) (v := ?_) rfl rfl (by kernel_rfl) (by kernel_rfl) (by kernel_rfl) (fun _ _ _ h => h) (Or.inl ⟨by rfl, ?hy11u30⟩) hHeld ?rest11u30
        case hy11u30 =>
          intro w' hS'
          obtain ⟨s1, s2, _⟩ := hS'
          go_simp
          try with_reducible rfl
        simp only [List.setIfInBounds_toArray, List.set_cons_zero, List.set_cons_succ]
        refine take_op (i := 12) (d := 20) (v := ?_) rfl rfl (by kernel_rfl) (by kernel_rfl) (by kernel_rfl) (fun _ _ _ h => h) (Or.inl ⟨by rfl, ?hy12u31⟩) hHeld ?rest12u31
        case hy12u31 =>
          intro w' hS'
          obtain ⟨s1, s2, _⟩ := hS'
          go_simp
          try with_reducible rfl
        simp only [List.setIfInBounds_toArray, List.set_cons_zero, List.set_cons_succ]
        refine take_op (i := 13) (d := 21) (v := ?_) rfl rfl (by kernel_rfl) (by kernel_rfl) (by kernel_rfl) (fun _ _ _ h => h) (Or.inl ⟨by rfl, ?hy13u32⟩) hHeld ?rest13u32
        case hy13u32 =>
          intro w' hS'
          obtain ⟨s1, s2, _⟩ := hS'
          go_simp
          try with_reducible rfl
        simp only [List.setIfInBounds_toArray, List.set_cons_zero, List.set_cons_succ]
        refine wpAnyH_done (by kernel_rfl) ?_ _
        have hbx := hHeld.2.2
        clear hHeld hb c1 c2
        clear hc
        have z8 : decide ((s : Int) < 0) = false := decide_eq_false (by omega)
        clear z7 z5 z3 z4 z6
        obtain ⟨wo, rfl⟩ : ∃ wo : World, wo = wr := ⟨_, rfl⟩
        go_wp2
        go_loopw [4] (fun i wr2 => ∃ k : Nat, i = .int .i64 (k : Int) ∧ s ≤ k ∧ k < n ∧ nextN o xa (n - 1) = nextN o xa k ∧ Below W.heap.size W wr2) (fun i _ => (intOf i).toNat)
        case atStart => exact ⟨n - 1, by rw [show ((n - 1 : Nat) : Int) = (n : Int) - 1 by omega], by omega, by omega, rfl, hbx⟩
        case round =>
          clear hbx
          obtain ⟨k, rfl, hsk, hkn, hnx, hb⟩ := hrel
          have d1 := (HC.out wr hb s (by omega)).1
          have d2 := (HC.out wr hb k hkn).1
          rw [HXA.out] at d1
          have HNX := Lib.hid hnx
          have HEQ : Hid (k = s → o.getD k 0 = xa) := Lib.hid (fun e => by rw [e]; exact HXA.out)
          have HPOS := Lib.hid (fun j (e : k = j + 1) (h : o.getD k 0 < xa) => (show nextN o xa k = nextN o xa j by subst e; rw [next_step, if_pos h]))
          have HSTOP := Lib.hid (fun (h : ¬ o.getD k 0 < xa) => next_stop h)
          have HSW : Hid (∀ V, IRow V g o → IRow ((V.setCell ⟨g, s, none⟩ (.int .i64 ((o.getD k 0 : Nat) : Int))).setCell ⟨g, k, none⟩ (.int .i64 (xa : Int))) g (swapP o s k)) := Lib.hid (fun V hv => by rw [swapP, HXA.out]; exact irow_set (irow_set hv _ _) _ _)
          have z11 : (k : Int) < (n : Int) := by omega
          have z12 : (0 : Int) ≤ (k : Int) := by omega
          clear hnx
          generalize o.getD k 0 = xk at *
          by_cases hc : xk < xa
          · have z7 : decide ((xk : Int) < (xa : Int)) = true := decide_eq_true (by omega)
            have hks : k ≠ s := fun e => by have := HEQ.out e; omega
            have z6 : (k : Int) - 1 = ((k - 1 : Nat) : Int) := by omega
            have HE2 := Lib.hid (HNX.out.trans (HPOS.out (k - 1) (by omega) hc))
            go_wp2
            refine wp_region_held_drew (S := (fun V => V.cell? ⟨g, k, none⟩ = some (.int .i64 (xk : Int)) ∧ V.cell? ⟨g, s, none⟩ = some (.int .i64 (xa : Int)) ∧ Below W.heap.size W V)) (by kernel_rfl) ⟨by simpa using d2, by simpa using d1, hb.drew⟩ (fun hHeld => ?_)
            refine take_op (i := 0) (d := 29) (v := ?_) rfl rfl (by kernel_rfl) (by kernel_rfl) (by kernel_rfl) (fun _ _ _ h => h) (Or.inl ⟨by rfl, ?hy0u33⟩) hHeld ?rest0u33
            case hy0u33 =>
              intro w' hS'
              obtain ⟨s1, s2, _⟩ := hS'
              go_simp
              try with_reducible rfl
            simp only [List.setIfInBounds_toArray, List.set_cons_zero, List.set_cons_succ]
            refine take_op (i := 1) (d := 30) (v := ?_) rfl rfl (by kernel_rfl) (by kernel_rfl) (by kernel_rfl) (fun _ _ _ h => h) (Or.inl ⟨by rfl, ?hy1u34⟩) hHeld ?rest1u34
            case hy1u34 =>
              intro w' hS'
              obtain ⟨s1, s2, _⟩ := hS'
              go_simp
              try with_reducible rfl
            simp only [List.setIfInBounds_toArray, List.set_cons_zero, List.set_cons_succ]
            refine take_op (i := 2) (d := 31) (v := ?_) rfl rfl (by kernel_rfl) (by kernel_rfl) (by kernel_rfl) (fun _ _ _ h => h) (Or.inl ⟨by rfl, ?hy2u35⟩) hHeld ?rest2u35
            case hy2u35 =>
              intro w' hS'
              obtain ⟨s1, s2, _⟩ := hS'
              go_simp
              try with_reducible rfl
            simp only [List.setIfInBounds_toArray, List.set_cons_zero, List.set_cons_succ]
            refine take_op (i := 3) (d := 32) (v := ?_) rfl rfl (by kernel_rfl) (by kernel_rfl) (by kernel_rfl) (fun _ _ _ h => h) (Or.inl ⟨by rfl, ?hy3u36⟩) hHeld ?rest3u36
            case hy3u36 =>
              intro w' hS'
              obtain ⟨s1, s2, _⟩ := hS'
              go_simp
              try with_reducible rfl
            simp only [List.setIfInBounds_toArray, List.set_cons_zero, List.set_cons_succ]
            refine take_op (i := 4) (d := 33) (v := ?_) rfl rfl (by kernel_rfl) (by kernel_rfl) (by kernel_rfl) (fun _ _ _ h => h) (Or.inl ⟨by rfl, ?hy4u37⟩) hHeld ?rest4u37
            case hy4u37 =>
              intro w' hS'
              obtain ⟨s1, s2, _⟩ := hS'
              go_simp
              try with_reducible rfl
            simp only [List.setIfInBounds_toArray, List.set_cons_zero, List.set_cons_succ]
            refine take_op (i := 5) (d := 34) (v := ?_) rfl rfl (by kernel_rfl) (by kernel_rfl) (by kernel_rfl) (fun _ _ _ h => h) (Or.inl ⟨by rfl, ?hy5u38⟩) hHeld ?rest5u38
            case hy5u38 =>
              intro w' hS'
              obtain ⟨s1, s2, _⟩ := hS'
              go_simp
              try with_reducible rfl
            simp only [List.setIfInBounds_toArray, List.set_cons_zero, List.set_cons_succ]
            refine take_op (i := 6) (d := 35) (v := ?_) rfl rfl (by kernel_rfl) (by kernel_rfl) (by kernel_rfl) (fun _ _ _ h => h) (Or.inl ⟨by rfl, ?hy6u39⟩) hHeld ?rest6u39
            case hy6u39 =>
              intro w' hS'
              obtain ⟨s1, s2, _⟩ := hS'
              go_simp
              try with_reducible rfl
            simp only [List.setIfInBounds_toArray, List.set_cons_zero, List.set_cons_succ]
            refine take_op (i := 7) (d := 36) (v := ?_) rfl rfl (by kernel_rfl) (by kernel_rfl) (by kernel_rfl) (fun _ _ _ h => h) (Or.inl ⟨by rfl, ?hy7u40⟩) hHeld ?rest7u40
            case hy7u40 =>
              intro w' hS'
              obtain ⟨s1, s2, _⟩ := hS'
              go_simp
              try with_reducible rfl
            simp only [List.setIfInBounds_toArray, List.set_cons_zero, List.set_cons_succ]
            refine take_op (i := 8) (d := 37) (v := ?_) rfl rfl (by kernel_rfl) (by kernel_rfl) (by kernel_rfl) (fun _ _ _ h => h) (Or.inl ⟨by rfl, ?hy8u41⟩) hHeld ?rest8u41
            case hy8u41 =>
              intro w' hS'
              obtain ⟨s1, s2, _⟩ := hS'
              go_simp
              try with_reducible rfl
            simp only [List.setIfInBounds_toArray, List.set_cons_zero, List.set_cons_succ]
            refine wpAnyH_done (by kernel_rfl) ?_ _
            have hbx := hHeld.2.2
            clear hHeld hb d1 d2
            go_wp2
            go_roundw
            case rel => exact ⟨k - 1, by first | rfl | exact congrArg (Value.int .i64) z6, by omega, by omega, HE2.out, hbx⟩
            case measure => first | (simp [intOf]; done) | (simp [intOf]; omega)
          · have z7 : decide ((xk : Int) < (xa : Int)) = false := decide_eq_false (by omega)
            have HADV := Lib.hid (HYK.out k (HNX.out.trans (HSTOP.out hc)))
            have HREV := Lib.hid (fun V => HREV0.out V s k)
            rw [HSL.out s k] at HREV
            have e1 := d1
            have e2 := d2
            have f1 := (HC.out wr hb s (by omega)).2
            have f2 := (HC.out wr hb k hkn).2
            obtain ⟨e5, e6⟩ := irow_cell (irow_set (irow_keep HR.out hb) s xk) (j := k) (by rw [List.length_set, HN.out]; exact hkn)
            generalize (o.set s xk).getD k 0 = xu at e5
            go_wp2
            refine wp_region_held_drew (S := (fun V => V.cell? ⟨g, k, none⟩ = some (.int .i64 (xk : Int)) ∧ V.cell? ⟨g, s, none⟩ = some (.int .i64 (xa : Int)) ∧ Below W.heap.size W V)) (by kernel_rfl) ⟨by simpa using d2, by simpa using d1, hb.drew⟩ (fun hHeld => ?_)
            refine take_op (i := 0) (d := 29) (v := ?_) rfl rfl (by kernel_rfl) (by kernel_rfl) (by kernel_rfl) (fun _ _ _ h => h) (Or.inl ⟨by rfl, ?hy0u42⟩) hHeld ?rest0u42
            case hy0u42 =>
              intro w' hS'
              obtain ⟨s1, s2, _⟩ := hS'
              go_simp
              try with_reducible rfl
            simp only [List.setIfInBounds_toArray, List.set_cons_zero, List.set_cons_succ]
            refine take_op (i := 1) (d := 30) (v := ?_) rfl rfl (by kernel_rfl) (by kernel_rfl) (by kernel_rfl) (fun _ _ _ h => h) (Or.inl ⟨by rfl, ?hy1u43⟩) hHeld ?rest1u43
            case hy1u43 =>
              intro w' hS'
              obtain ⟨s1, s2, _⟩ := hS'
              go_simp
              try with_reducible rfl
            simp only [List.setIfInBounds_toArray, List.set_cons_zero, List.set_cons_succ]
            refine take_op (i := 2) (d := 31) (v := ?_) rfl rfl (by kernel_rfl) (by kernel_rfl) (by kernel_rfl) (fun _ _ _ h => h) (Or.inl ⟨by rfl, ?hy2u44⟩) hHeld ?rest2u44
            case hy2u44 =>
              intro w' hS'
              obtain ⟨s1, s2, _⟩ := hS'
              go_simp
              try with_reducible rfl
            simp only [List.setIfInBounds_toArray, List.set_cons_zero, List.set_cons_succ]
            refine take_op (i := 3) (d := 32) (v := ?_) rfl rfl (by kernel_rfl) (by kernel_rfl) (by kernel_rfl) (fun _ _ _ h => h) (Or.inl ⟨by rfl, ?hy3u45⟩) hHeld ?rest3u45
            case hy3u45 =>
              intro w' hS'
              obtain ⟨s1, s2, _⟩ := hS'
              go_simp
              try with_reducible rfl
            simp only [List.setIfInBounds_toArray, List.set_cons_zero, List.set_cons_succ]
            refine take_op (i := 4) (d := 33) (v := ?_) rfl rfl (by kernel_rfl) (by kernel_rfl) (by kernel_rfl) (fun _ _ _ h => h) (Or.inl ⟨by rfl, ?hy4u46⟩) hHeld ?rest4u46
            case hy4u46 =>
              intro w' hS'
              obtain ⟨s1, s2, _⟩ := hS'
              go_simp
              try with_reducible rfl
            simp only [List.setIfInBounds_toArray, List.set_cons_zero, List.set_cons_succ]
            refine take_op (i := 5) (d := 34) (v := ?_) rfl rfl (by kernel_rfl) (by kernel_rfl) (by kernel_rfl) (fun _ _ _ h => h) (Or.inl ⟨by rfl, ?hy5u47⟩) hHeld ?rest5u47
            case hy5u47 =>
              intro w' hS'
              obtain ⟨s1, s2, _⟩ := hS'
              go_simp
              try with_reducible rfl
            simp only [List.setIfInBounds_toArray, List.set_cons_zero, List.set_cons_succ]
            refine take_op (i := 6) (d := 35) (v := ?_) rfl rfl (by kernel_rfl) (by kernel_rfl) (by kernel_rfl) (fun _ _ _ h => h) (Or.inl ⟨by rfl, ?hy6u48⟩) hHeld ?rest6u48
            case hy6u48 =>
              intro w' hS'
              obtain ⟨s1, s2, _⟩ := hS'
              go_simp
              try with_reducible rfl
            simp only [List.setIfInBounds_toArray, List.set_cons_zero, List.set_cons_succ]
            refine take_op (i := 7) (d := 36) (v := ?_) rfl rfl (by kernel_rfl) (by kernel_rfl) (by kernel_rfl) (fun _ _ _ h => h) (Or.inl ⟨by rfl, ?hy7u49⟩) hHeld ?rest7u49
            case hy7u49 =>
              intro w' hS'
              obtain ⟨s1, s2, _⟩ := hS'
              go_simp
              try with_reducible rfl
            simp only [List.setIfInBounds_toArray, List.set_cons_zero, List.set_cons_succ]
            refine take_op (i := 8) (d := 37) (v := ?_) rfl rfl (by kernel_rfl) (by kernel_rfl) (by kernel_rfl) (fun _ _ _ h => h) (Or.inl ⟨by rfl, ?hy8u50⟩) hHeld ?rest8u50
            case hy8u50 =>
              intro w' hS'
              obtain ⟨s1, s2, _⟩ := hS'
              go_simp
              try with_reducible rfl
            simp only [List.setIfInBounds_toArray, List.set_cons_zero, List.set_cons_succ]
            refine wpAnyH_done (by kernel_rfl) ?_ _
            have hbx := hHeld.2.2
            clear hHeld hb d1 d2
            have e3 := (HC.out wr.drew hbx s (by omega)).2
            have e4 := (HC.out wr.drew hbx k hkn).2
            have HR3 : Hid (IRow wr g o) := Lib.hid (show IRow wr.drew g o from irow_keep HR.out hbx)
            clear z7
            go_wp2
            refine wp_region_held_drew (S := (fun V => W.grownBy V (some g))) (by kernel_rfl) (below_grown6 hbx.drew g) (fun hHeld => ?_)
            refine take_op (i := 0) (d := 40) (v := ?_) rfl rfl (by kernel_rfl) (by kernel_rfl) (by kernel_rfl) (fun _ _ _ h => h) (Or.inl ⟨by rfl, ?hy0u51⟩) hHeld ?rest0u51
            case hy0u51 =>
              intro w' hS'
              go_simp
              try with_reducible rfl
            simp only [List.setIfInBounds_toArray, List.set_cons_zero, List.set_cons_succ]
            refine take_op (i := 1) (d := 41) (v := ?_) rfl rfl (by kernel_rfl) (by kernel_rfl) (by kernel_rfl) (fun _ _ _ h => h) (Or.inl ⟨by rfl, ?hy1u52⟩) hHeld ?rest1u52
            case hy1u52 =>
              intro w' hS'
              go_simp
              try with_reducible rfl
            simp only [List.setIfInBounds_toArray, List.set_cons_zero, List.set_cons_succ]
            refine take_op (i := 2) (d := 42) (v := ?_) rfl rfl (by kernel_rfl) (by kernel_rfl) (by kernel_rfl) (fun _ _ _ h => h) (Or.inl ⟨by rfl, ?hy2u53⟩) hHeld ?rest2u53
            case hy2u53 =>
              intro w' hS'
              go_simp
              try with_reducible rfl
            simp only [List.setIfInBounds_toArray, List.set_cons_zero, List.set_cons_succ]
            refine take_op (i := 3) (d := 43) (v := ?_) rfl rfl (by kernel_rfl) (by kernel_rfl) (by kernel_rfl) (fun _ _ _ h => h) (Or.inl ⟨by rfl, ?hy3u54⟩) hHeld ?rest3u54
            case hy3u54 =>
              intro w' hS'
              go_simp
              try with_reducible rfl
            simp only [List.setIfInBounds_toArray, List.set_cons_zero, List.set_cons_succ]
            refine take_op (i := 4) (d := 44) (v := ?_) rfl rfl (by kernel_rfl) (by kernel_rfl) (by kernel_rfl) (fun _ _ _ h => h) (Or.inl ⟨by rfl, ?hy4u55⟩) hHeld ?rest4u55
            case hy4u55 =>
              intro w' hS'
              go_simp
              try with_reducible rfl
            simp only [List.setIfInBounds_toArray, List.set_cons_zero, List.set_cons_succ]
            refine take_op (i := 5) (d := 45) (v := ?_) rfl rfl (by kernel_rfl) (by kernel_rfl) (by kernel_rfl) (fun _ _ _ h => h) (Or.inl ⟨by rfl, ?hy5u56⟩) hHeld ?rest5u56
            case hy5u56 =>
              intro w' hS'
              go_simp
              try with_reducible rfl
            simp only [List.setIfInBounds_toArray, List.set_cons_zero, List.set_cons_succ]
            refine take_op (i := 6) (d := 46) (v := ?_) rfl rfl (by kernel_rfl) (by kernel_rfl) (by kernel_rfl) (fun _ _ _ h => h) (Or.inl ⟨by rfl, ?hy6u57⟩) hHeld ?rest6u57
            case hy6u57 =>
              intro w' hS'
              go_simp
              try with_reducible rfl
            simp only [List.setIfInBounds_toArray, List.set_cons_zero, List.set_cons_succ]
            refine take_op (i := 8) (d := 48) (v := ?_) rfl rfl (by kernel_rfl) (by kernel_rfl) (by kernel_rfl) (fun _ _ _ h => h) (Or.inl ⟨by rfl, ?hy8u58⟩) hHeld ?rest8u58
            case hy8u58 =>
              intro w' hS'
              go_simp
              try with_reducible rfl
            simp only [List.setIfInBounds_toArray, List.set_cons_zero, List.set_cons_succ]
            refine take_op (i := 9) (d := 49) (v := ?_) rfl rfl (by kernel_rfl) (by kernel_rfl) (by kernel_rfl) (fun _ _ _ h => h) (Or.inl ⟨by rfl, ?hy9u59⟩) hHeld ?rest9u59
            case hy9u59 =>
              intro w' hS'
              go_simp
              try with_reducible rfl
            simp only [List.setIfInBounds_toArray, List.set_cons_zero, List.set_cons_succ]
            refine take_op (i := 10) (d := 50) (v := ?_) rfl rfl (by kernel_rfl) (by kernel_rfl) (by kernel_rfl) (fun _ _ _ h => h) (Or.inl ⟨by rfl, ?hy10u60⟩) hHeld ?rest10u60
            case hy10u60 =>
              intro w' hS'
              go_simp
              try with_reducible rfl
            simp only [List.setIfInBounds_toArray, List.set_cons_zero, List.set_cons_succ]
            refine wpAnyH_ready (rs := [7, 11]) (by kernel_rfl) (by simp) ?_
            refine AllReadyH.cons rfl (fun K hK => ?_) (AllReadyH.cons rfl (fun K hK => ?_) AllReadyH.nil)
            · go_simp
              refine hK.out _ _ (hHeld) (fun hHeld2 => ?_)
              clear hK K
              replace hHeld := hHeld2
              clear hHeld2
              refine wpAnyH_ready (rs := [11]) (by kernel_rfl) (by simp) ?_
              refine AllReadyH.cons rfl (fun K hK => ?_) AllReadyH.nil
              go_simp
              refine hK.out _ _ (hHeld) (fun hHeld2 => ?_)
              clear hK K
              replace hHeld := hHeld2
              clear hHeld2
              refine take_op (i := 12) (d := 52) (v := ?_) rfl rfl (by kernel_rfl) (by kernel_rfl) (by kernel_rfl) (fun _ _ _ h => h) (Or.inl ⟨by rfl, ?hy12u61⟩) hHeld ?rest12u61
              case hy12u61 =>
                intro w' hS'
                go_simp
                try with_reducible rfl
              simp only [List.setIfInBounds_toArray, List.set_cons_zero, List.set_cons_succ]
              refine wpAnyH_ready (rs := [13]) (by kernel_rfl) (by simp) ?_
              refine AllReadyH.cons rfl (fun K hK => ?_) AllReadyH.nil
              go_simp
              refine hK.out _ _ (set_grown hHeld) (fun hHeld2 => ?_)
              clear hK K
              replace hHeld := hHeld2
              clear hHeld2
              refine take_op (i := 14) (d := 53) (v := ?_) rfl rfl (by kernel_rfl) (by kernel_rfl) (by kernel_rfl) (fun _ _ _ h => h) (Or.inl ⟨by rfl, ?hy14u62⟩) hHeld ?rest14u62
              case hy14u62 =>
                intro w' hS'
                go_simp
                try with_reducible rfl
              simp only [List.setIfInBounds_toArray, List.set_cons_zero, List.set_cons_succ]
              refine wpAnyH_ready (rs := [15]) (by kernel_rfl) (by simp) ?_
              refine AllReadyH.cons rfl (fun K hK => ?_) AllReadyH.nil
              go_simp
              refine hK.out _ _ (set_grown hHeld) (fun hHeld2 => ?_)
              clear hK K
              replace hHeld := hHeld2
              clear hHeld2
              refine wpAnyH_done (by kernel_rfl) ?_ _
              refine abs_exit (fun V => W.grownBy V (some g) ∧ IRow V g (swapP o s k)) ⟨hHeld, HSW.out wr HR3.out⟩ ?_
              rintro V9 ⟨hg9, hr9⟩
              clear hHeld
              have HH := Lib.hid (irow_holds hr9 (s + 1))
              have HRV := Lib.hid (fun q => irow_rev (q := q) (s := s + 1) hr9)
              have HGV := Lib.hid (fun q d => put_grown (q := q) (s := s + 1) (d := d) hg9)
              clear hr9 hg9
              go_wp2_with (go_at_call 79; refine (HREV.out V9 HH.out).mono ?_; rintro e V10 ⟨rfl, q, hq⟩)
              go_ret
              exact adv_yes HADV.out (HRV.out q) (HGV.out q _)
            · go_simp
              refine hK.out _ _ (hHeld) (fun hHeld2 => ?_)
              clear hK K
              replace hHeld := hHeld2
              clear hHeld2
              refine wpAnyH_ready (rs := [7]) (by kernel_rfl) (by simp) ?_
              refine AllReadyH.cons rfl (fun K hK => ?_) AllReadyH.nil
              go_simp
              refine hK.out _ _ (hHeld) (fun hHeld2 => ?_)
              clear hK K
              replace hHeld := hHeld2
              clear hHeld2
              refine take_op (i := 12) (d := 52) (v := ?_) rfl rfl (by kernel_rfl) (by kernel_rfl) (by kernel_rfl) (fun _ _ _ h => h) (Or.inl ⟨by rfl, ?hy12u63⟩) hHeld ?rest12u63
              case hy12u63 =>
                intro w' hS'
                go_simp
                try with_reducible rfl
              simp only [List.setIfInBounds_toArray, List.set_cons_zero, List.set_cons_succ]
              refine wpAnyH_ready (rs := [13]) (by kernel_rfl) (by simp) ?_
              refine AllReadyH.cons rfl (fun K hK => ?_) AllReadyH.nil
              go_simp
              refine hK.out _ _ (set_grown hHeld) (fun hHeld2 => ?_)
              clear hK K
              replace hHeld := hHeld2
              clear hHeld2
              refine take_op (i := 14) (d := 53) (v := ?_) rfl rfl (by kernel_rfl) (by kernel_rfl) (by kernel_rfl) (fun _ _ _ h => h) (Or.inl ⟨by rfl, ?hy14u64⟩) hHeld ?rest14u64
              case hy14u64 =>
                intro w' hS'
                go_simp
                try with_reducible rfl
              simp only [List.setIfInBounds_toArray, List.set_cons_zero, List.set_cons_succ]
              refine wpAnyH_ready (rs := [15]) (by kernel_rfl) (by simp) ?_
              refine AllReadyH.cons rfl (fun K hK => ?_) AllReadyH.nil
              go_simp
              refine hK.out _ _ (set_grown hHeld) (fun hHeld2 => ?_)
              clear hK K
              replace hHeld := hHeld2
              clear hHeld2
              refine wpAnyH_done (by kernel_rfl) ?_ _
              refine abs_exit (fun V => W.grownBy V (some g) ∧ IRow V g (swapP o s k)) ⟨hHeld, HSW.out wr HR3.out⟩ ?_
              rintro V9 ⟨hg9, hr9⟩
              clear hHeld
              have HH := Lib.hid (irow_holds hr9 (s + 1))
              have HRV := Lib.hid (fun q => irow_rev (q := q) (s := s + 1) hr9)
              have HGV := Lib.hid (fun q d => put_grown (q := q) (s := s + 1) (d := d) hg9)
              clear hr9 hg9
              go_wp2_with (go_at_call 79; refine (HREV.out V9 HH.out).mono ?_; rintro e V10 ⟨rfl, q, hq⟩)
              go_ret
              exact adv_yes HADV.out (HRV.out q) (HGV.out q _)

end Go.Proofs.Ytjpnbcfdnolcjab
