/-
  Counts of numbers between bounds: the model.
-/
import Derived.Test.YtjpnbcfdnolcjaaCbC
import Derived.Deep.Cut
import Derived.Deep.DeepCutAuto
namespace Go.Proofs.Ytjpnbcfdnolcjaa
open Go.ChangeShapes Go.WideShapes Go.ChangeAt Go.RowKit Go.Deep Go.Joins

attribute [local go_sem] run_store_f

set_option maxRecDepth 100000 in
set_option maxHeartbeats 4000000 in
theorem sCountBins_no (v0 v1 : Value) (zs bs : List Nat) (_hwf0 : ∀ z ∈ zs, (Lit.float .f32 z).wf = true) (hwf1 : ∀ z ∈ bs, (Lit.float .f32 z).wf = true) (c : Int) (hcd : codeCb zs bs = c) (hne : c ≠ 0) (w : World) (h0 : FloatsAt w v0 zs) (h1 : FloatsAt w v1 bs) :
    Calls Try.prog 42 #[v0, v1] w (RetList [] c w) := by
  have HA := Lib.hid (l06Ok_any v0 zs w h0)
  have HB := Lib.hid (l06Ok_any v1 bs w h1)
  have HZ := Lib.hid h1
  obtain ⟨a0, cap0, rfl, hl0, hm0, _⟩ := h0
  obtain ⟨a, cap, rfl, hl, hm, _⟩ := h1
  unfold maxLen at hm0 hm
  subst hcd
  rcases codeCb_cases hne with ⟨e, ea⟩ | ⟨e, ea, eb⟩ | ⟨e, ea, eb, hbad⟩
  · rw [e]
    clear e hne
    rw [ea] at HA
    clear HB
    go_enter Try.func42, Try.ntmps42
    go_wp2_with (go_at_call 47; (with_reducible refine HA.out.mono ?_); rintro e w' ⟨rfl, rfl⟩)
    go_ret2
    exact ⟨⟨_, rfl, own_base0I (World.ownsRow_made _ _ _ (Nat.le_refl _) (Nat.zero_le _) rfl)⟩, (Below.refl _ _).alloc (Nat.le_refl _) _⟩
  · rw [e]
    clear e hne
    rw [ea] at HA
    rw [eb] at HB
    go_enter Try.func42, Try.ntmps42
    go_wp2_with (first | (go_at_call 47; (with_reducible refine HA.out.mono ?_); rintro e w' ⟨rfl, rfl⟩) | (go_at_call 47; (with_reducible refine HB.out.mono ?_); rintro e w' ⟨rfl, rfl⟩))
    go_ret2
    exact ⟨⟨_, rfl, own_base0I (World.ownsRow_made _ _ _ (Nat.le_refl _) (Nat.zero_le _) rfl)⟩, (Below.refl _ _).alloc (Nat.le_refl _) _⟩
  · rw [e]
    clear e hne
    obtain ⟨h48, hq⟩ := okLs_get hwf1 eb
    rw [ea] at HA
    rw [eb] at HB
    have HQ := Lib.hid hq
    have HAa := Lib.hid (show ascN bs (bs.length - 1) = ascB bs from rfl)
    have HBD := Lib.hid hbad
    clear hq hbad ea eb hwf1
    generalize hn : bs.length = n at *
    have HN := Lib.hid hn
    clear hn
    go_enter Try.func42, Try.ntmps42
    go_wp2_with (first | (go_at_call 47; (with_reducible refine HA.out.mono ?_); rintro e w' ⟨rfl, rfl⟩) | (go_at_call 47; (with_reducible refine HB.out.mono ?_); rintro e w' ⟨rfl, rfl⟩))
    clear HA HB
    go_loopw [6] (fun i wr => ∃ k : Nat, (k = 0 ∨ k + 1 ≤ n) ∧ i = .int .i64 ((k : Int) + 1) ∧ Below w.heap.size w wr ∧ ascN bs k = true) (fun i _ => n - (intOf i).toNat)
    case atStart => exact ⟨0, .inl rfl, rfl, Below.refl _ _, rfl⟩
    case round =>
      obtain ⟨k, hk, rfl, hb, has⟩ := hrel
      have HAs := Lib.hid has
      clear has
      by_cases hlt : k + 1 < n
      · have hka := getD_get (l := bs) (i := k) (by rw [HN.out]; omega)
        have hkb := getD_get (l := bs) (i := k + 1) (by rw [HN.out]; omega)
        obtain ⟨g, o, rfl, ca⟩ := float_at (floats_below HZ.out hb) hka
        obtain ⟨g', o', eg, cb⟩ := float_at (floats_below HZ.out hb) hkb
        obtain ⟨rfl, rfl⟩ : g = g' ∧ o = o' := by simpa using eg
        have hnz := num_kz (HQ.out _ (List.mem_of_getElem? hkb)).1 (HQ.out _ (List.mem_of_getElem? hka)).1
        have HBad := Lib.hid (fun h => asc_bad (bs := bs) (k := k) (by rw [HN.out]; exact hlt) h)
        have HSt := Lib.hid (fun h => ascN_step (bs := bs) (k := k) HAs.out h)
        have z1 : ((k : Int) + 1) < (n : Int) := by omega
        have z2 : (0 : Int) ≤ ((k : Int) + 1) := by omega
        have z3 : ((k : Int) + 1) - 1 = (k : Int) := by omega
        have z4 : IntKind.i64.wrap (k : Int) = (k : Int) := IntWalk.i64_in _ (by omega)
        have z5 : IntKind.i64.wrap ((k : Int) + 1) = ((k : Int) + 1) := IntWalk.i64_in _ (by omega)
        have z6 : (k : Int) < (n : Int) := by omega
        have z7 : (0 : Int) ≤ (k : Int) := by omega
        clear hka hkb eg
        generalize bs.getD k 0 = xa at *
        generalize bs.getD (k + 1) 0 = xb at *
        have z8 : decide (((k : Int) + 1) < (n : Int)) = true := decide_eq_true z1
        rcases hnz with ⟨h, e⟩ | ⟨h, e⟩ | ⟨h, e⟩
        · clear HSt
          go_wp2
          refine wp_region_held_drew (S := (fun V => V.cell? ⟨g, o + (k + 1), none⟩ = some (.float .f32 xb) ∧ V.cell? ⟨g, o + k, none⟩ = some (.float .f32 xa) ∧ Below w.heap.size w V)) (by kernel_rfl) ⟨by simpa using cb, by simpa using ca, hb.drew⟩ (fun hHeld => ?_)
          refine take_op (i := 0) (d := 25) (v := ?_) rfl rfl (by kernel_rfl) (by kernel_rfl) (by kernel_rfl) (fun _ _ _ h => h) (Or.inl ⟨by rfl, ?hy0u52⟩) hHeld ?rest0u52
          case hy0u52 =>
            intro w' hS'
            obtain ⟨s1, s2, _⟩ := hS'
            go_simp
            try with_reducible rfl
          simp only [List.setIfInBounds_toArray, List.set_cons_zero, List.set_cons_succ]
          refine take_op (i := 1) (d := 26) (v := ?_) rfl rfl (by kernel_rfl) (by kernel_rfl) (by kernel_rfl) (fun _ _ _ h => h) (Or.inl ⟨by rfl, ?hy1u53⟩) hHeld ?rest1u53
          case hy1u53 =>
            intro w' hS'
            obtain ⟨s1, s2, _⟩ := hS'
            go_simp
            try with_reducible rfl
          simp only [List.setIfInBounds_toArray, List.set_cons_zero, List.set_cons_succ]
          refine take_op (i := 2) (d := 27) (v := ?_) rfl rfl (by kernel_rfl) (by kernel_rfl) (by kernel_rfl) (fun _ _ _ h => h) (Or.inl ⟨by rfl, ?hy2u54⟩) hHeld ?rest2u54
          case hy2u54 =>
            intro w' hS'
            obtain ⟨s1, s2, _⟩ := hS'
            go_simp
            try with_reducible rfl
          simp only [List.setIfInBounds_toArray, List.set_cons_zero, List.set_cons_succ]
          refine take_op (i := 3) (d := 28) (v := ?_) rfl rfl (by kernel_rfl) (by kernel_rfl) (by kernel_rfl) (fun _ _ _ h => h) (Or.inl ⟨by rfl, ?hy3u55⟩) hHeld ?rest3u55
          case hy3u55 =>
            intro w' hS'
            obtain ⟨s1, s2, _⟩ := hS'
            go_simp
            try with_reducible rfl
          simp only [List.setIfInBounds_toArray, List.set_cons_zero, List.set_cons_succ]
          refine take_op (i := 4) (d := 29) (v := ?_) rfl rfl (by kernel_rfl) (by kernel_rfl) (by kernel_rfl) (fun _ _ _ h => h) (Or.inl ⟨by rfl, ?hy4u56⟩) hHeld ?rest4u56
          case hy4u56 =>
            intro w' hS'
            obtain ⟨s1, s2, _⟩ := hS'
            go_simp
            try with_reducible rfl
          simp only [List.setIfInBounds_toArray, List.set_cons_zero, List.set_cons_succ]
          refine take_op (i := 5) (d := 30) (v := ?_) rfl rfl (by kernel_rfl) (by kernel_rfl) (by kernel_rfl) (fun _ _ _ h => h) (Or.inl ⟨by rfl, ?hy5u57⟩) hHeld ?rest5u57
          case hy5u57 =>
            intro w' hS'
            obtain ⟨s1, s2, _⟩ := hS'
            go_simp
            try with_reducible rfl
          simp only [List.setIfInBounds_toArray, List.set_cons_zero, List.set_cons_succ]
          refine take_op (i := 6) (d := 31) (v := ?_) rfl rfl (by kernel_rfl) (by kernel_rfl) (by kernel_rfl) (fun _ _ _ h => h) (Or.inl ⟨by rfl, ?hy6u58⟩) hHeld ?rest6u58
          case hy6u58 =>
            intro w' hS'
            obtain ⟨s1, s2, _⟩ := hS'
            go_simp
            try with_reducible rfl
          simp only [List.setIfInBounds_toArray, List.set_cons_zero, List.set_cons_succ]
          refine take_op (i := 7) (d := 32) (v := ?_) rfl rfl (by kernel_rfl) (by kernel_rfl) (by kernel_rfl) (fun _ _ _ h => h) (Or.inl ⟨by rfl, ?hy7u59⟩) hHeld ?rest7u59
          case hy7u59 =>
            intro w' hS'
            obtain ⟨s1, s2, _⟩ := hS'
            go_simp
            try with_reducible rfl
          simp only [List.setIfInBounds_toArray, List.set_cons_zero, List.set_cons_succ]
          refine take_op (i := 8) (d := 33) (v := ?_) rfl rfl (by kernel_rfl) (by kernel_rfl) (by kernel_rfl) (fun _ _ _ h => h) (Or.inl ⟨by rfl, ?hy8u60⟩) hHeld ?rest8u60
          case hy8u60 =>
            intro w' hS'
            obtain ⟨s1, s2, _⟩ := hS'
            go_simp
            try with_reducible rfl
          simp only [List.setIfInBounds_toArray, List.set_cons_zero, List.set_cons_succ]
          refine take_op (i := 9) (d := 34) (v := ?_) rfl rfl (by kernel_rfl) (by kernel_rfl) (by kernel_rfl) (fun _ _ _ h => h) (Or.inl ⟨by rfl, ?hy9u61⟩) hHeld ?rest9u61
          case hy9u61 =>
            intro w' hS'
            obtain ⟨s1, s2, _⟩ := hS'
            go_simp
            try with_reducible rfl
          simp only [List.setIfInBounds_toArray, List.set_cons_zero, List.set_cons_succ]
          refine wpAnyH_done (by kernel_rfl) ?_ _
          have hbx := hHeld.2.2
          clear hHeld hb ca cb
          go_wp2
          go_ret2
          exact ⟨⟨_, rfl, own_base0I (World.ownsRow_made wr.drew _ _ (Below.size hbx) (Nat.zero_le _) rfl)⟩, hbx.alloc hbx.size _⟩
        · have HE := Lib.hid (HSt.out e)
          clear e HBad
          go_wp2
          refine wp_region_held_drew (S := (fun V => V.cell? ⟨g, o + (k + 1), none⟩ = some (.float .f32 xb) ∧ V.cell? ⟨g, o + k, none⟩ = some (.float .f32 xa) ∧ Below w.heap.size w V)) (by kernel_rfl) ⟨by simpa using cb, by simpa using ca, hb.drew⟩ (fun hHeld => ?_)
          refine take_op (i := 0) (d := 25) (v := ?_) rfl rfl (by kernel_rfl) (by kernel_rfl) (by kernel_rfl) (fun _ _ _ h => h) (Or.inl ⟨by rfl, ?hy0u62⟩) hHeld ?rest0u62
          case hy0u62 =>
            intro w' hS'
            obtain ⟨s1, s2, _⟩ := hS'
            go_simp
            try with_reducible rfl
          simp only [List.setIfInBounds_toArray, List.set_cons_zero, List.set_cons_succ]
          refine take_op (i := 1) (d := 26) (v := ?_) rfl rfl (by kernel_rfl) (by kernel_rfl) (by kernel_rfl) (fun _ _ _ h => h) (Or.inl ⟨by rfl, ?hy1u63⟩) hHeld ?rest1u63
          case hy1u63 =>
            intro w' hS'
            obtain ⟨s1, s2, _⟩ := hS'
            go_simp
            try with_reducible rfl
          simp only [List.setIfInBounds_toArray, List.set_cons_zero, List.set_cons_succ]
          refine take_op (i := 2) (d := 27) (v := ?_) rfl rfl (by kernel_rfl) (by kernel_rfl) (by kernel_rfl) (fun _ _ _ h => h) (Or.inl ⟨by rfl, ?hy2u64⟩) hHeld ?rest2u64
          case hy2u64 =>
            intro w' hS'
            obtain ⟨s1, s2, _⟩ := hS'
            go_simp
            try with_reducible rfl
          simp only [List.setIfInBounds_toArray, List.set_cons_zero, List.set_cons_succ]
          refine take_op (i := 3) (d := 28) (v := ?_) rfl rfl (by kernel_rfl) (by kernel_rfl) (by kernel_rfl) (fun _ _ _ h => h) (Or.inl ⟨by rfl, ?hy3u65⟩) hHeld ?rest3u65
          case hy3u65 =>
            intro w' hS'
            obtain ⟨s1, s2, _⟩ := hS'
            go_simp
            try with_reducible rfl
          simp only [List.setIfInBounds_toArray, List.set_cons_zero, List.set_cons_succ]
          refine take_op (i := 4) (d := 29) (v := ?_) rfl rfl (by kernel_rfl) (by kernel_rfl) (by kernel_rfl) (fun _ _ _ h => h) (Or.inl ⟨by rfl, ?hy4u66⟩) hHeld ?rest4u66
          case hy4u66 =>
            intro w' hS'
            obtain ⟨s1, s2, _⟩ := hS'
            go_simp
            try with_reducible rfl
          simp only [List.setIfInBounds_toArray, List.set_cons_zero, List.set_cons_succ]
          refine take_op (i := 5) (d := 30) (v := ?_) rfl rfl (by kernel_rfl) (by kernel_rfl) (by kernel_rfl) (fun _ _ _ h => h) (Or.inl ⟨by rfl, ?hy5u67⟩) hHeld ?rest5u67
          case hy5u67 =>
            intro w' hS'
            obtain ⟨s1, s2, _⟩ := hS'
            go_simp
            try with_reducible rfl
          simp only [List.setIfInBounds_toArray, List.set_cons_zero, List.set_cons_succ]
          refine take_op (i := 6) (d := 31) (v := ?_) rfl rfl (by kernel_rfl) (by kernel_rfl) (by kernel_rfl) (fun _ _ _ h => h) (Or.inl ⟨by rfl, ?hy6u68⟩) hHeld ?rest6u68
          case hy6u68 =>
            intro w' hS'
            obtain ⟨s1, s2, _⟩ := hS'
            go_simp
            try with_reducible rfl
          simp only [List.setIfInBounds_toArray, List.set_cons_zero, List.set_cons_succ]
          refine take_op (i := 7) (d := 32) (v := ?_) rfl rfl (by kernel_rfl) (by kernel_rfl) (by kernel_rfl) (fun _ _ _ h => h) (Or.inl ⟨by rfl, ?hy7u69⟩) hHeld ?rest7u69
          case hy7u69 =>
            intro w' hS'
            obtain ⟨s1, s2, _⟩ := hS'
            go_simp
            try with_reducible rfl
          simp only [List.setIfInBounds_toArray, List.set_cons_zero, List.set_cons_succ]
          refine take_op (i := 8) (d := 33) (v := ?_) rfl rfl (by kernel_rfl) (by kernel_rfl) (by kernel_rfl) (fun _ _ _ h => h) (Or.inl ⟨by rfl, ?hy8u70⟩) hHeld ?rest8u70
          case hy8u70 =>
            intro w' hS'
            obtain ⟨s1, s2, _⟩ := hS'
            go_simp
            try with_reducible rfl
          simp only [List.setIfInBounds_toArray, List.set_cons_zero, List.set_cons_succ]
          refine take_op (i := 9) (d := 34) (v := ?_) rfl rfl (by kernel_rfl) (by kernel_rfl) (by kernel_rfl) (fun _ _ _ h => h) (Or.inl ⟨by rfl, ?hy9u71⟩) hHeld ?rest9u71
          case hy9u71 =>
            intro w' hS'
            obtain ⟨s1, s2, _⟩ := hS'
            go_simp
            try with_reducible rfl
          simp only [List.setIfInBounds_toArray, List.set_cons_zero, List.set_cons_succ]
          refine wpAnyH_done (by kernel_rfl) ?_ _
          have hbx := hHeld.2.2
          clear hHeld hb ca cb
          go_wp2
          go_roundw
          case rel => exact ⟨k + 1, .inr (by omega), by go_num, hbx, HE.out⟩
          case measure => simp [intOf]; omega
        · clear HSt
          go_wp2
          refine wp_region_held_drew (S := (fun V => V.cell? ⟨g, o + (k + 1), none⟩ = some (.float .f32 xb) ∧ V.cell? ⟨g, o + k, none⟩ = some (.float .f32 xa) ∧ Below w.heap.size w V)) (by kernel_rfl) ⟨by simpa using cb, by simpa using ca, hb.drew⟩ (fun hHeld => ?_)
          refine take_op (i := 0) (d := 25) (v := ?_) rfl rfl (by kernel_rfl) (by kernel_rfl) (by kernel_rfl) (fun _ _ _ h => h) (Or.inl ⟨by rfl, ?hy0u72⟩) hHeld ?rest0u72
          case hy0u72 =>
            intro w' hS'
            obtain ⟨s1, s2, _⟩ := hS'
            go_simp
            try with_reducible rfl
          simp only [List.setIfInBounds_toArray, List.set_cons_zero, List.set_cons_succ]
          refine take_op (i := 1) (d := 26) (v := ?_) rfl rfl (by kernel_rfl) (by kernel_rfl) (by kernel_rfl) (fun _ _ _ h => h) (Or.inl ⟨by rfl, ?hy1u73⟩) hHeld ?rest1u73
          case hy1u73 =>
            intro w' hS'
            obtain ⟨s1, s2, _⟩ := hS'
            go_simp
            try with_reducible rfl
          simp only [List.setIfInBounds_toArray, List.set_cons_zero, List.set_cons_succ]
          refine take_op (i := 2) (d := 27) (v := ?_) rfl rfl (by kernel_rfl) (by kernel_rfl) (by kernel_rfl) (fun _ _ _ h => h) (Or.inl ⟨by rfl, ?hy2u74⟩) hHeld ?rest2u74
          case hy2u74 =>
            intro w' hS'
            obtain ⟨s1, s2, _⟩ := hS'
            go_simp
            try with_reducible rfl
          simp only [List.setIfInBounds_toArray, List.set_cons_zero, List.set_cons_succ]
          refine take_op (i := 3) (d := 28) (v := ?_) rfl rfl (by kernel_rfl) (by kernel_rfl) (by kernel_rfl) (fun _ _ _ h => h) (Or.inl ⟨by rfl, ?hy3u75⟩) hHeld ?rest3u75
          case hy3u75 =>
            intro w' hS'
            obtain ⟨s1, s2, _⟩ := hS'
            go_simp
            try with_reducible rfl
          simp only [List.setIfInBounds_toArray, List.set_cons_zero, List.set_cons_succ]
          refine take_op (i := 4) (d := 29) (v := ?_) rfl rfl (by kernel_rfl) (by kernel_rfl) (by kernel_rfl) (fun _ _ _ h => h) (Or.inl ⟨by rfl, ?hy4u76⟩) hHeld ?rest4u76
          case hy4u76 =>
            intro w' hS'
            obtain ⟨s1, s2, _⟩ := hS'
            go_simp
            try with_reducible rfl
          simp only [List.setIfInBounds_toArray, List.set_cons_zero, List.set_cons_succ]
          refine take_op (i := 5) (d := 30) (v := ?_) rfl rfl (by kernel_rfl) (by kernel_rfl) (by kernel_rfl) (fun _ _ _ h => h) (Or.inl ⟨by rfl, ?hy5u77⟩) hHeld ?rest5u77
          case hy5u77 =>
            intro w' hS'
            obtain ⟨s1, s2, _⟩ := hS'
            go_simp
            try with_reducible rfl
          simp only [List.setIfInBounds_toArray, List.set_cons_zero, List.set_cons_succ]
          refine take_op (i := 6) (d := 31) (v := ?_) rfl rfl (by kernel_rfl) (by kernel_rfl) (by kernel_rfl) (fun _ _ _ h => h) (Or.inl ⟨by rfl, ?hy6u78⟩) hHeld ?rest6u78
          case hy6u78 =>
            intro w' hS'
            obtain ⟨s1, s2, _⟩ := hS'
            go_simp
            try with_reducible rfl
          simp only [List.setIfInBounds_toArray, List.set_cons_zero, List.set_cons_succ]
          refine take_op (i := 7) (d := 32) (v := ?_) rfl rfl (by kernel_rfl) (by kernel_rfl) (by kernel_rfl) (fun _ _ _ h => h) (Or.inl ⟨by rfl, ?hy7u79⟩) hHeld ?rest7u79
          case hy7u79 =>
            intro w' hS'
            obtain ⟨s1, s2, _⟩ := hS'
            go_simp
            try with_reducible rfl
          simp only [List.setIfInBounds_toArray, List.set_cons_zero, List.set_cons_succ]
          refine take_op (i := 8) (d := 33) (v := ?_) rfl rfl (by kernel_rfl) (by kernel_rfl) (by kernel_rfl) (fun _ _ _ h => h) (Or.inl ⟨by rfl, ?hy8u80⟩) hHeld ?rest8u80
          case hy8u80 =>
            intro w' hS'
            obtain ⟨s1, s2, _⟩ := hS'
            go_simp
            try with_reducible rfl
          simp only [List.setIfInBounds_toArray, List.set_cons_zero, List.set_cons_succ]
          refine take_op (i := 9) (d := 34) (v := ?_) rfl rfl (by kernel_rfl) (by kernel_rfl) (by kernel_rfl) (fun _ _ _ h => h) (Or.inl ⟨by rfl, ?hy9u81⟩) hHeld ?rest9u81
          case hy9u81 =>
            intro w' hS'
            obtain ⟨s1, s2, _⟩ := hS'
            go_simp
            try with_reducible rfl
          simp only [List.setIfInBounds_toArray, List.set_cons_zero, List.set_cons_succ]
          refine wpAnyH_done (by kernel_rfl) ?_ _
          have hbx := hHeld.2.2
          clear hHeld hb ca cb
          go_wp2
          go_ret2
          exact ⟨⟨_, rfl, own_base0I (World.ownsRow_made wr.drew _ _ (Below.size hbx) (Nat.zero_le _) rfl)⟩, hbx.alloc hbx.size _⟩
      · have e : ascB bs = true := by
          rw [← HAa.out, show n - 1 = k by omega]
          exact HAs.out
        have hlen : 16 < n := HBD.out.resolve_right (by rw [e]; decide)
        have z0 : (16 : Int) < (n : Int) := by omega
        have z1 : (n : Int) ≤ (k : Int) + 1 := by omega
        have z8 : decide ((k : Int) + 1 < (n : Int)) = false := decide_eq_false (by omega)
        clear e
        go_wp2
        go_ret2
        exact ⟨⟨_, rfl, own_base0I (World.ownsRow_made _ _ _ (Below.size hb) (Nat.zero_le _) rfl)⟩, hb.alloc hb.size _⟩

set_option maxRecDepth 100000 in
set_option maxHeartbeats 16000000 in
theorem sCountBins_yes (v0 v1 : Value) (zs bs : List Nat) (hwf0 : ∀ z ∈ zs, (Lit.float .f32 z).wf = true) (hwf1 : ∀ z ∈ bs, (Lit.float .f32 z).wf = true) (hcd : codeCb zs bs = 0) (w : World) (h0 : FloatsAt w v0 zs) (h1 : FloatsAt w v1 bs) :
    Calls Try.prog 42 #[v0, v1] w (RetList (ansL bs zs) 0 w) := by
  have HA := Lib.hid (l06Ok_any v0 zs w h0)
  have HB := Lib.hid (l06Ok_any v1 bs w h1)
  have HZ0 := Lib.hid h0
  have HZ := Lib.hid h1
  obtain ⟨a0, cap0, rfl, hl0, hm0, _⟩ := h0
  obtain ⟨a, cap, rfl, hl, hm, _⟩ := h1
  unfold maxLen at hm0 hm
  obtain ⟨ea, eb, h48, h16, hasc, hq0, hq⟩ := codeCb_zero hwf0 hwf1 hcd
  rw [ea] at HA
  rw [eb] at HB
  have HQ0 := Lib.hid hq0
  have HQ := Lib.hid hq
  have HASC := Lib.hid hasc
  have HOWN := Lib.hid (fun W g (h : CntRow W g bs zs bs.length zs.length) (hB : w.heap.size ≤ g) => cnt_own h hB (by omega))
  have HIS := Lib.hid (fun x => binN_is bs x)
  have HEQ := Lib.hid (fun x b => bin_eq (bs := bs) (x := x) (b := b))
  clear hcd hwf0 hwf1 ea eb hasc hq0 hq
  unfold IsBin at HIS HEQ
  generalize hn : bs.length = n at *
  have HN := Lib.hid hn
  clear hn
  go_enter Try.func42, Try.ntmps42
  go_wp2_with (first | (go_at_call 47; (with_reducible refine HA.out.mono ?_); rintro e w' ⟨rfl, rfl⟩) | (go_at_call 47; (with_reducible refine HB.out.mono ?_); rintro e w' ⟨rfl, rfl⟩))
  clear HA HB
  go_loopw [6] (fun i wr => ∃ k : Nat, (k = 0 ∨ k + 1 ≤ n) ∧ i = .int .i64 ((k : Int) + 1) ∧ Below w.heap.size w wr ∧ ascN bs k = true) (fun i _ => n - (intOf i).toNat)
  case atStart => exact ⟨0, .inl rfl, rfl, Below.refl _ _, rfl⟩
  case round =>
    obtain ⟨k, hk, rfl, hb, has⟩ := hrel
    have HAs := Lib.hid has
    clear has
    by_cases hlt : k + 1 < n
    · have hka := getD_get (l := bs) (i := k) (by rw [HN.out]; omega)
      have hkb := getD_get (l := bs) (i := k + 1) (by rw [HN.out]; omega)
      obtain ⟨g, o, rfl, ca⟩ := float_at (floats_below HZ.out hb) hka
      obtain ⟨g', o', eg, cb⟩ := float_at (floats_below HZ.out hb) hkb
      obtain ⟨rfl, rfl⟩ : g = g' ∧ o = o' := by simpa using eg
      have hnz := num_kz (HQ.out _ (List.mem_of_getElem? hkb)).1 (HQ.out _ (List.mem_of_getElem? hka)).1
      have HBad := Lib.hid (fun h => asc_bad (bs := bs) (k := k) (by rw [HN.out]; exact hlt) h)
      have HSt := Lib.hid (fun h => ascN_step (bs := bs) (k := k) HAs.out h)
      have z1 : ((k : Int) + 1) < (n : Int) := by omega
      have z2 : (0 : Int) ≤ ((k : Int) + 1) := by omega
      have z3 : ((k : Int) + 1) - 1 = (k : Int) := by omega
      have z4 : IntKind.i64.wrap (k : Int) = (k : Int) := IntWalk.i64_in _ (by omega)
      have z5 : IntKind.i64.wrap ((k : Int) + 1) = ((k : Int) + 1) := IntWalk.i64_in _ (by omega)
      have z6 : (k : Int) < (n : Int) := by omega
      have z7 : (0 : Int) ≤ (k : Int) := by omega
      clear hka hkb eg
      generalize bs.getD k 0 = xa at *
      generalize bs.getD (k + 1) 0 = xb at *
      have z8 : decide (((k : Int) + 1) < (n : Int)) = true := decide_eq_true z1
      rcases hnz with ⟨h, e⟩ | ⟨h, e⟩ | ⟨h, e⟩
      · clear HSt
        have := HBad.out (by omega)
        rw [HASC.out] at this; cases this
      · have HE := Lib.hid (HSt.out e)
        clear e HBad
        go_wp2
        refine wp_region_held_drew (S := (fun V => V.cell? ⟨g, o + (k + 1), none⟩ = some (.float .f32 xb) ∧ V.cell? ⟨g, o + k, none⟩ = some (.float .f32 xa) ∧ Below w.heap.size w V)) (by kernel_rfl) ⟨by simpa using cb, by simpa using ca, hb.drew⟩ (fun hHeld => ?_)
        refine take_op (i := 0) (d := 25) (v := ?_) rfl rfl (by kernel_rfl) (by kernel_rfl) (by kernel_rfl) (fun _ _ _ h => h) (Or.inl ⟨by rfl, ?hy0u82⟩) hHeld ?rest0u82
        case hy0u82 =>
          intro w' hS'
          obtain ⟨s1, s2, _⟩ := hS'
          go_simp
          try with_reducible rfl
        simp only [List.setIfInBounds_toArray, List.set_cons_zero, List.set_cons_succ]
        refine take_op (i := 1) (d := 26) (v := ?_) rfl rfl (by kernel_rfl) (by kernel_rfl) (by kernel_rfl) (fun _ _ _ h => h) (Or.inl ⟨by rfl, ?hy1u83⟩) hHeld ?rest1u83
        case hy1u83 =>
          intro w' hS'
          obtain ⟨s1, s2, _⟩ := hS'
          go_simp
          try with_reducible rfl
        simp only [List.setIfInBounds_toArray, List.set_cons_zero, List.set_cons_succ]
        refine take_op (i := 2) (d := 27) (v := ?_) rfl rfl (by kernel_rfl) (by kernel_rfl) (by kernel_rfl) (fun _ _ _ h => h) (Or.inl ⟨by rfl, ?hy2u84⟩) hHeld ?rest2u84
        case hy2u84 =>
          intro w' hS'
          obtain ⟨s1, s2, _⟩ := hS'
          go_simp
          try with_reducible rfl
        simp only [List.setIfInBounds_toArray, List.set_cons_zero, List.set_cons_succ]
        refine take_op (i := 3) (d := 28) (v := ?_) rfl rfl (by kernel_rfl) (by kernel_rfl) (by kernel_rfl) (fun _ _ _ h => h) (Or.inl ⟨by rfl, ?hy3u85⟩) hHeld ?rest3u85
        case hy3u85 =>
          intro w' hS'
          obtain ⟨s1, s2, _⟩ := hS'
          go_simp
          try with_reducible rfl
        simp only [List.setIfInBounds_toArray, List.set_cons_zero, List.set_cons_succ]
        refine take_op (i := 4) (d := 29) (v := ?_) rfl rfl (by kernel_rfl) (by kernel_rfl) (by kernel_rfl) (fun _ _ _ h => h) (Or.inl ⟨by rfl, ?hy4u86⟩) hHeld ?rest4u86
        case hy4u86 =>
          intro w' hS'
          obtain ⟨s1, s2, _⟩ := hS'
          go_simp
          try with_reducible rfl
        simp only [List.setIfInBounds_toArray, List.set_cons_zero, List.set_cons_succ]
        refine take_op (i := 5) (d := 30) (v := ?_) rfl rfl (by kernel_rfl) (by kernel_rfl) (by kernel_rfl) (fun _ _ _ h => h) (Or.inl ⟨by rfl, ?hy5u87⟩) hHeld ?rest5u87
        case hy5u87 =>
          intro w' hS'
          obtain ⟨s1, s2, _⟩ := hS'
          go_simp
          try with_reducible rfl
        simp only [List.setIfInBounds_toArray, List.set_cons_zero, List.set_cons_succ]
        refine take_op (i := 6) (d := 31) (v := ?_) rfl rfl (by kernel_rfl) (by kernel_rfl) (by kernel_rfl) (fun _ _ _ h => h) (Or.inl ⟨by rfl, ?hy6u88⟩) hHeld ?rest6u88
        case hy6u88 =>
          intro w' hS'
          obtain ⟨s1, s2, _⟩ := hS'
          go_simp
          try with_reducible rfl
        simp only [List.setIfInBounds_toArray, List.set_cons_zero, List.set_cons_succ]
        refine take_op (i := 7) (d := 32) (v := ?_) rfl rfl (by kernel_rfl) (by kernel_rfl) (by kernel_rfl) (fun _ _ _ h => h) (Or.inl ⟨by rfl, ?hy7u89⟩) hHeld ?rest7u89
        case hy7u89 =>
          intro w' hS'
          obtain ⟨s1, s2, _⟩ := hS'
          go_simp
          try with_reducible rfl
        simp only [List.setIfInBounds_toArray, List.set_cons_zero, List.set_cons_succ]
        refine take_op (i := 8) (d := 33) (v := ?_) rfl rfl (by kernel_rfl) (by kernel_rfl) (by kernel_rfl) (fun _ _ _ h => h) (Or.inl ⟨by rfl, ?hy8u90⟩) hHeld ?rest8u90
        case hy8u90 =>
          intro w' hS'
          obtain ⟨s1, s2, _⟩ := hS'
          go_simp
          try with_reducible rfl
        simp only [List.setIfInBounds_toArray, List.set_cons_zero, List.set_cons_succ]
        refine take_op (i := 9) (d := 34) (v := ?_) rfl rfl (by kernel_rfl) (by kernel_rfl) (by kernel_rfl) (fun _ _ _ h => h) (Or.inl ⟨by rfl, ?hy9u91⟩) hHeld ?rest9u91
        case hy9u91 =>
          intro w' hS'
          obtain ⟨s1, s2, _⟩ := hS'
          go_simp
          try with_reducible rfl
        simp only [List.setIfInBounds_toArray, List.set_cons_zero, List.set_cons_succ]
        refine wpAnyH_done (by kernel_rfl) ?_ _
        have hbx := hHeld.2.2
        clear hHeld hb ca cb
        go_wp2
        go_roundw
        case rel => exact ⟨k + 1, .inr (by omega), by go_num, hbx, HE.out⟩
        case measure => simp [intOf]; omega
      · clear HSt
        have := HBad.out (by omega)
        rw [HASC.out] at this; cases this
    · have z0 : (n : Int) ≤ 16 := by omega
      have z1 : (n : Int) ≤ (k : Int) + 1 := by omega
      have z8 : decide ((k : Int) + 1 < (n : Int)) = false := decide_eq_false (by omega)
      have hmk := fun w => make_ints1 n (by omega) w
      have hrow0 := cnt_new wr bs zs n
      have HG := Lib.hid hb.size
      have hb2 := hb.alloc hb.size (.cells (madeCells #[.int .i64 0] (n + 1)) 2)
      clear HAs
      go_wp2
      clear hmk
      generalize wr.heap.size = G at *
      go_loopw [8] (fun i wr2 => ∃ k : Nat, k ≤ zs.length ∧ i = .int .i64 k ∧ Below w.heap.size w wr2 ∧ CntRow wr2 G bs zs n k) (fun i _ => zs.length - (intOf i).toNat)
      case atStart => exact ⟨0, Nat.zero_le _, rfl, hb2, hrow0⟩
      case round =>
        clear hrow0 hb2 hb z1 z8
        obtain ⟨k, hk, rfl, hb, hrow⟩ := hrel
        by_cases hlt : k < zs.length
        · have hx := getD_get hlt
          have hxn := (HQ0.out _ (List.mem_of_getElem? hx)).1
          have HX := Lib.hid hx
          have HXN := Lib.hid hxn
          have HST := Lib.hid (fun W b (hbb : binN bs (zs.getD k 0) = b) (hbm : b ≤ n) (h : CntRow W G bs zs n k) => cnt_step h hbb hbm)
          have HCL := Lib.hid (fun W b (hbm : b ≤ n) (h : CntRow W G bs zs n k) => cnt_cell h hbm)
          have HV := Lib.hid (cntF_le bs zs k)
          have z1 : (k : Int) < (zs.length : Int) := by omega
          have z2 : (0 : Int) ≤ (k : Int) := by omega
          have z3 : decide ((k : Int) < (zs.length : Int)) = true := decide_eq_true z1
          have HRow := Lib.hid hrow
          clear hx hxn hrow
          generalize zs.getD k 0 = x at *
          obtain ⟨wo, rfl⟩ : ∃ wo : World, wo = wr := ⟨_, rfl⟩
          go_wp2
          go_loopw [9] (fun bv wr4 => ∃ b : Nat, b ≤ n ∧ bv = .int .i64 b ∧ (∀ t, t < b → kz (bs.getD t 0) ≤ kz x) ∧ CntRow wr4 G bs zs n k ∧ Below w.heap.size w wr4) (fun bv _ => n - (intOf bv).toNat)
          case atStart => exact ⟨0, Nat.zero_le _, rfl, fun t ht => absurd ht (Nat.not_lt_zero _), HRow.out, hb⟩
          case round =>
            clear HRow hb
            obtain ⟨b, hbn, rfl, hlow, hrow, hb⟩ := hrel
            have HLow := Lib.hid hlow
            clear hlow
            by_cases hlb : b < n
            · have hy := getD_get (l := bs) (i := b) (by rw [HN.out]; exact hlb)
              obtain ⟨g, o, rfl, ca⟩ := float_at (floats_below HZ0.out hb) HX.out
              obtain ⟨g2, o2, rfl, cb⟩ := float_at (floats_below HZ.out hb) hy
              have hnz := num_kz HXN.out (HQ.out _ (List.mem_of_getElem? hy)).1
              have HE := Lib.hid (fun (h : kz x < kz (bs.getD b 0)) => HEQ.out x b ⟨hbn, HLow.out, fun _ => h⟩)
              have HLow2 := Lib.hid (fun (h : kz (bs.getD b 0) ≤ kz x) t (ht : t < b + 1) => (show kz (bs.getD t 0) ≤ kz x from if e : t = b then e ▸ h else HLow.out t (by omega)))
              have z4 : (b : Int) < (n : Int) := by omega
              have z5 : (0 : Int) ≤ (b : Int) := by omega
              have z6 : decide ((b : Int) < (n : Int)) = true := decide_eq_true z4
              clear hy
              generalize bs.getD b 0 = y at *
              rcases hnz with ⟨h, e⟩ | ⟨h, e⟩ | ⟨h, e⟩
              · have HBE := Lib.hid (HE.out e)
                clear e HE HLow2
                go_wp2
                refine wp_region_held_drew (S := (fun V => V.cell? ⟨g, o + k, none⟩ = some (.float .f32 x) ∧ V.cell? ⟨g2, o2 + b, none⟩ = some (.float .f32 y) ∧ CntRow V G bs zs n k ∧ Below w.heap.size w V)) (by kernel_rfl) ⟨by simpa using ca, by simpa using cb, cnt_drew hrow, hb.drew⟩ (fun hHeld => ?_)
                refine take_op (i := 0) (d := 50) (v := ?_) rfl rfl (by kernel_rfl) (by kernel_rfl) (by kernel_rfl) (fun _ _ _ h => h) (Or.inl ⟨by rfl, ?hy0u92⟩) hHeld ?rest0u92
                case hy0u92 =>
                  intro w' hS'
                  obtain ⟨s1, s2, _, _⟩ := hS'
                  go_simp
                  try with_reducible rfl
                simp only [List.setIfInBounds_toArray, List.set_cons_zero, List.set_cons_succ]
                refine take_op (i := 1) (d := 51) (v := ?_) rfl rfl (by kernel_rfl) (by kernel_rfl) (by kernel_rfl) (fun _ _ _ h => h) (Or.inl ⟨by rfl, ?hy1u93⟩) hHeld ?rest1u93
                case hy1u93 =>
                  intro w' hS'
                  obtain ⟨s1, s2, _, _⟩ := hS'
                  go_simp
                  try with_reducible rfl
                simp only [List.setIfInBounds_toArray, List.set_cons_zero, List.set_cons_succ]
                refine take_op (i := 2) (d := 52) (v := ?_) rfl rfl (by kernel_rfl) (by kernel_rfl) (by kernel_rfl) (fun _ _ _ h => h) (Or.inl ⟨by rfl, ?hy2u94⟩) hHeld ?rest2u94
                case hy2u94 =>
                  intro w' hS'
                  obtain ⟨s1, s2, _, _⟩ := hS'
                  go_simp
                  try with_reducible rfl
                simp only [List.setIfInBounds_toArray, List.set_cons_zero, List.set_cons_succ]
                refine take_op (i := 3) (d := 53) (v := ?_) rfl rfl (by kernel_rfl) (by kernel_rfl) (by kernel_rfl) (fun _ _ _ h => h) (Or.inl ⟨by rfl, ?hy3u95⟩) hHeld ?rest3u95
                case hy3u95 =>
                  intro w' hS'
                  obtain ⟨s1, s2, _, _⟩ := hS'
                  go_simp
                  try with_reducible rfl
                simp only [List.setIfInBounds_toArray, List.set_cons_zero, List.set_cons_succ]
                refine take_op (i := 4) (d := 54) (v := ?_) rfl rfl (by kernel_rfl) (by kernel_rfl) (by kernel_rfl) (fun _ _ _ h => h) (Or.inl ⟨by rfl, ?hy4u96⟩) hHeld ?rest4u96
                case hy4u96 =>
                  intro w' hS'
                  obtain ⟨s1, s2, _, _⟩ := hS'
                  go_simp
                  try with_reducible rfl
                simp only [List.setIfInBounds_toArray, List.set_cons_zero, List.set_cons_succ]
                refine take_op (i := 5) (d := 55) (v := ?_) rfl rfl (by kernel_rfl) (by kernel_rfl) (by kernel_rfl) (fun _ _ _ h => h) (Or.inl ⟨by rfl, ?hy5u97⟩) hHeld ?rest5u97
                case hy5u97 =>
                  intro w' hS'
                  obtain ⟨s1, s2, _, _⟩ := hS'
                  go_simp
                  try with_reducible rfl
                simp only [List.setIfInBounds_toArray, List.set_cons_zero, List.set_cons_succ]
                refine take_op (i := 6) (d := 56) (v := ?_) rfl rfl (by kernel_rfl) (by kernel_rfl) (by kernel_rfl) (fun _ _ _ h => h) (Or.inl ⟨by rfl, ?hy6u98⟩) hHeld ?rest6u98
                case hy6u98 =>
                  intro w' hS'
                  obtain ⟨s1, s2, _, _⟩ := hS'
                  go_simp
                  try with_reducible rfl
                simp only [List.setIfInBounds_toArray, List.set_cons_zero, List.set_cons_succ]
                refine take_op (i := 7) (d := 57) (v := ?_) rfl rfl (by kernel_rfl) (by kernel_rfl) (by kernel_rfl) (fun _ _ _ h => h) (Or.inl ⟨by rfl, ?hy7u99⟩) hHeld ?rest7u99
                case hy7u99 =>
                  intro w' hS'
                  obtain ⟨s1, s2, _, _⟩ := hS'
                  go_simp
                  try with_reducible rfl
                simp only [List.setIfInBounds_toArray, List.set_cons_zero, List.set_cons_succ]
                refine take_op (i := 8) (d := 58) (v := ?_) rfl rfl (by kernel_rfl) (by kernel_rfl) (by kernel_rfl) (fun _ _ _ h => h) (Or.inl ⟨by rfl, ?hy8u100⟩) hHeld ?rest8u100
                case hy8u100 =>
                  intro w' hS'
                  obtain ⟨s1, s2, _, _⟩ := hS'
                  go_simp
                  try with_reducible rfl
                simp only [List.setIfInBounds_toArray, List.set_cons_zero, List.set_cons_succ]
                refine take_op (i := 9) (d := 59) (v := ?_) rfl rfl (by kernel_rfl) (by kernel_rfl) (by kernel_rfl) (fun _ _ _ h => h) (Or.inl ⟨by rfl, ?hy9u101⟩) hHeld ?rest9u101
                case hy9u101 =>
                  intro w' hS'
                  obtain ⟨s1, s2, _, _⟩ := hS'
                  go_simp
                  try with_reducible rfl
                simp only [List.setIfInBounds_toArray, List.set_cons_zero, List.set_cons_succ]
                refine take_op (i := 10) (d := 60) (v := ?_) rfl rfl (by kernel_rfl) (by kernel_rfl) (by kernel_rfl) (fun _ _ _ h => h) (Or.inl ⟨by rfl, ?hy10u102⟩) hHeld ?rest10u102
                case hy10u102 =>
                  intro w' hS'
                  obtain ⟨s1, s2, _, _⟩ := hS'
                  go_simp
                  try with_reducible rfl
                simp only [List.setIfInBounds_toArray, List.set_cons_zero, List.set_cons_succ]
                refine take_op (i := 11) (d := 61) (v := ?_) rfl rfl (by kernel_rfl) (by kernel_rfl) (by kernel_rfl) (fun _ _ _ h => h) (Or.inl ⟨by rfl, ?hy11u103⟩) hHeld ?rest11u103
                case hy11u103 =>
                  intro w' hS'
                  obtain ⟨s1, s2, _, _⟩ := hS'
                  go_simp
                  try with_reducible rfl
                simp only [List.setIfInBounds_toArray, List.set_cons_zero, List.set_cons_succ]
                refine take_op (i := 12) (d := 62) (v := ?_) rfl rfl (by kernel_rfl) (by kernel_rfl) (by kernel_rfl) (fun _ _ _ h => h) (Or.inl ⟨by rfl, ?hy12u104⟩) hHeld ?rest12u104
                case hy12u104 =>
                  intro w' hS'
                  obtain ⟨s1, s2, _, _⟩ := hS'
                  go_simp
                  try with_reducible rfl
                simp only [List.setIfInBounds_toArray, List.set_cons_zero, List.set_cons_succ]
                refine take_op (i := 13) (d := 63) (v := ?_) rfl rfl (by kernel_rfl) (by kernel_rfl) (by kernel_rfl) (fun _ _ _ h => h) (Or.inl ⟨by rfl, ?hy13u105⟩) hHeld ?rest13u105
                case hy13u105 =>
                  intro w' hS'
                  obtain ⟨s1, s2, _, _⟩ := hS'
                  go_simp
                  try with_reducible rfl
                simp only [List.setIfInBounds_toArray, List.set_cons_zero, List.set_cons_succ]
                refine take_op (i := 14) (d := 64) (v := ?_) rfl rfl (by kernel_rfl) (by kernel_rfl) (by kernel_rfl) (fun _ _ _ h => h) (Or.inl ⟨by rfl, ?hy14u106⟩) hHeld ?rest14u106
                case hy14u106 =>
                  intro w' hS'
                  obtain ⟨s1, s2, _, _⟩ := hS'
                  go_simp
                  try with_reducible rfl
                simp only [List.setIfInBounds_toArray, List.set_cons_zero, List.set_cons_succ]
                refine wpAnyH_done (by kernel_rfl) ?_ _
                have hrx := hHeld.2.2.1
                have hbx := hHeld.2.2.2
                clear hHeld hb ca cb hrow
                obtain ⟨q1, q2⟩ := HCL.out _ b hbn hrx
                obtain ⟨hv0, hv1⟩ := HV.out b
                have HST2 := Lib.hid (HST.out _ b HBE.out hbn hrx)
                clear hrx
                generalize cntF bs zs k b = v at *
                go_wp2
                go_roundw
                case rel => exact ⟨k + 1, by omega, by go_num, hbx.setCell (p := ⟨G, b, none⟩) HG.out _, HST2.out⟩
                case measure => simp [intOf]; omega
              · have HL := Lib.hid (HLow2.out (by omega))
                clear e HE HLow2
                go_wp2
                refine wp_region_held_drew (S := (fun V => V.cell? ⟨g, o + k, none⟩ = some (.float .f32 x) ∧ V.cell? ⟨g2, o2 + b, none⟩ = some (.float .f32 y) ∧ CntRow V G bs zs n k ∧ Below w.heap.size w V)) (by kernel_rfl) ⟨by simpa using ca, by simpa using cb, cnt_drew hrow, hb.drew⟩ (fun hHeld => ?_)
                refine take_op (i := 0) (d := 50) (v := ?_) rfl rfl (by kernel_rfl) (by kernel_rfl) (by kernel_rfl) (fun _ _ _ h => h) (Or.inl ⟨by rfl, ?hy0u107⟩) hHeld ?rest0u107
                case hy0u107 =>
                  intro w' hS'
                  obtain ⟨s1, s2, _, _⟩ := hS'
                  go_simp
                  try with_reducible rfl
                simp only [List.setIfInBounds_toArray, List.set_cons_zero, List.set_cons_succ]
                refine take_op (i := 1) (d := 51) (v := ?_) rfl rfl (by kernel_rfl) (by kernel_rfl) (by kernel_rfl) (fun _ _ _ h => h) (Or.inl ⟨by rfl, ?hy1u108⟩) hHeld ?rest1u108
                case hy1u108 =>
                  intro w' hS'
                  obtain ⟨s1, s2, _, _⟩ := hS'
                  go_simp
                  try with_reducible rfl
                simp only [List.setIfInBounds_toArray, List.set_cons_zero, List.set_cons_succ]
                refine take_op (i := 2) (d := 52) (v := ?_) rfl rfl (by kernel_rfl) (by kernel_rfl) (by kernel_rfl) (fun _ _ _ h => h) (Or.inl ⟨by rfl, ?hy2u109⟩) hHeld ?rest2u109
                case hy2u109 =>
                  intro w' hS'
                  obtain ⟨s1, s2, _, _⟩ := hS'
                  go_simp
                  try with_reducible rfl
                simp only [List.setIfInBounds_toArray, List.set_cons_zero, List.set_cons_succ]
                refine take_op (i := 3) (d := 53) (v := ?_) rfl rfl (by kernel_rfl) (by kernel_rfl) (by kernel_rfl) (fun _ _ _ h => h) (Or.inl ⟨by rfl, ?hy3u110⟩) hHeld ?rest3u110
                case hy3u110 =>
                  intro w' hS'
                  obtain ⟨s1, s2, _, _⟩ := hS'
                  go_simp
                  try with_reducible rfl
                simp only [List.setIfInBounds_toArray, List.set_cons_zero, List.set_cons_succ]
                refine take_op (i := 4) (d := 54) (v := ?_) rfl rfl (by kernel_rfl) (by kernel_rfl) (by kernel_rfl) (fun _ _ _ h => h) (Or.inl ⟨by rfl, ?hy4u111⟩) hHeld ?rest4u111
                case hy4u111 =>
                  intro w' hS'
                  obtain ⟨s1, s2, _, _⟩ := hS'
                  go_simp
                  try with_reducible rfl
                simp only [List.setIfInBounds_toArray, List.set_cons_zero, List.set_cons_succ]
                refine take_op (i := 5) (d := 55) (v := ?_) rfl rfl (by kernel_rfl) (by kernel_rfl) (by kernel_rfl) (fun _ _ _ h => h) (Or.inl ⟨by rfl, ?hy5u112⟩) hHeld ?rest5u112
                case hy5u112 =>
                  intro w' hS'
                  obtain ⟨s1, s2, _, _⟩ := hS'
                  go_simp
                  try with_reducible rfl
                simp only [List.setIfInBounds_toArray, List.set_cons_zero, List.set_cons_succ]
                refine take_op (i := 6) (d := 56) (v := ?_) rfl rfl (by kernel_rfl) (by kernel_rfl) (by kernel_rfl) (fun _ _ _ h => h) (Or.inl ⟨by rfl, ?hy6u113⟩) hHeld ?rest6u113
                case hy6u113 =>
                  intro w' hS'
                  obtain ⟨s1, s2, _, _⟩ := hS'
                  go_simp
                  try with_reducible rfl
                simp only [List.setIfInBounds_toArray, List.set_cons_zero, List.set_cons_succ]
                refine take_op (i := 7) (d := 57) (v := ?_) rfl rfl (by kernel_rfl) (by kernel_rfl) (by kernel_rfl) (fun _ _ _ h => h) (Or.inl ⟨by rfl, ?hy7u114⟩) hHeld ?rest7u114
                case hy7u114 =>
                  intro w' hS'
                  obtain ⟨s1, s2, _, _⟩ := hS'
                  go_simp
                  try with_reducible rfl
                simp only [List.setIfInBounds_toArray, List.set_cons_zero, List.set_cons_succ]
                refine take_op (i := 8) (d := 58) (v := ?_) rfl rfl (by kernel_rfl) (by kernel_rfl) (by kernel_rfl) (fun _ _ _ h => h) (Or.inl ⟨by rfl, ?hy8u115⟩) hHeld ?rest8u115
                case hy8u115 =>
                  intro w' hS'
                  obtain ⟨s1, s2, _, _⟩ := hS'
                  go_simp
                  try with_reducible rfl
                simp only [List.setIfInBounds_toArray, List.set_cons_zero, List.set_cons_succ]
                refine take_op (i := 9) (d := 59) (v := ?_) rfl rfl (by kernel_rfl) (by kernel_rfl) (by kernel_rfl) (fun _ _ _ h => h) (Or.inl ⟨by rfl, ?hy9u116⟩) hHeld ?rest9u116
                case hy9u116 =>
                  intro w' hS'
                  obtain ⟨s1, s2, _, _⟩ := hS'
                  go_simp
                  try with_reducible rfl
                simp only [List.setIfInBounds_toArray, List.set_cons_zero, List.set_cons_succ]
                refine take_op (i := 10) (d := 60) (v := ?_) rfl rfl (by kernel_rfl) (by kernel_rfl) (by kernel_rfl) (fun _ _ _ h => h) (Or.inl ⟨by rfl, ?hy10u117⟩) hHeld ?rest10u117
                case hy10u117 =>
                  intro w' hS'
                  obtain ⟨s1, s2, _, _⟩ := hS'
                  go_simp
                  try with_reducible rfl
                simp only [List.setIfInBounds_toArray, List.set_cons_zero, List.set_cons_succ]
                refine take_op (i := 11) (d := 61) (v := ?_) rfl rfl (by kernel_rfl) (by kernel_rfl) (by kernel_rfl) (fun _ _ _ h => h) (Or.inl ⟨by rfl, ?hy11u118⟩) hHeld ?rest11u118
                case hy11u118 =>
                  intro w' hS'
                  obtain ⟨s1, s2, _, _⟩ := hS'
                  go_simp
                  try with_reducible rfl
                simp only [List.setIfInBounds_toArray, List.set_cons_zero, List.set_cons_succ]
                refine take_op (i := 12) (d := 62) (v := ?_) rfl rfl (by kernel_rfl) (by kernel_rfl) (by kernel_rfl) (fun _ _ _ h => h) (Or.inl ⟨by rfl, ?hy12u119⟩) hHeld ?rest12u119
                case hy12u119 =>
                  intro w' hS'
                  obtain ⟨s1, s2, _, _⟩ := hS'
                  go_simp
                  try with_reducible rfl
                simp only [List.setIfInBounds_toArray, List.set_cons_zero, List.set_cons_succ]
                refine take_op (i := 13) (d := 63) (v := ?_) rfl rfl (by kernel_rfl) (by kernel_rfl) (by kernel_rfl) (fun _ _ _ h => h) (Or.inl ⟨by rfl, ?hy13u120⟩) hHeld ?rest13u120
                case hy13u120 =>
                  intro w' hS'
                  obtain ⟨s1, s2, _, _⟩ := hS'
                  go_simp
                  try with_reducible rfl
                simp only [List.setIfInBounds_toArray, List.set_cons_zero, List.set_cons_succ]
                refine take_op (i := 14) (d := 64) (v := ?_) rfl rfl (by kernel_rfl) (by kernel_rfl) (by kernel_rfl) (fun _ _ _ h => h) (Or.inl ⟨by rfl, ?hy14u121⟩) hHeld ?rest14u121
                case hy14u121 =>
                  intro w' hS'
                  obtain ⟨s1, s2, _, _⟩ := hS'
                  go_simp
                  try with_reducible rfl
                simp only [List.setIfInBounds_toArray, List.set_cons_zero, List.set_cons_succ]
                refine wpAnyH_done (by kernel_rfl) ?_ _
                have hrx := hHeld.2.2.1
                have hbx := hHeld.2.2.2
                clear hHeld hb ca cb hrow
                have HRX := Lib.hid hrx
                clear hrx
                go_wp2
                go_roundw
                case rel => exact ⟨b + 1, by omega, by go_num, HL.out, HRX.out, hbx⟩
                case measure => simp [intOf]; omega
              · have HL := Lib.hid (HLow2.out (by omega))
                clear e HE HLow2
                go_wp2
                refine wp_region_held_drew (S := (fun V => V.cell? ⟨g, o + k, none⟩ = some (.float .f32 x) ∧ V.cell? ⟨g2, o2 + b, none⟩ = some (.float .f32 y) ∧ CntRow V G bs zs n k ∧ Below w.heap.size w V)) (by kernel_rfl) ⟨by simpa using ca, by simpa using cb, cnt_drew hrow, hb.drew⟩ (fun hHeld => ?_)
                refine take_op (i := 0) (d := 50) (v := ?_) rfl rfl (by kernel_rfl) (by kernel_rfl) (by kernel_rfl) (fun _ _ _ h => h) (Or.inl ⟨by rfl, ?hy0u122⟩) hHeld ?rest0u122
                case hy0u122 =>
                  intro w' hS'
                  obtain ⟨s1, s2, _, _⟩ := hS'
                  go_simp
                  try with_reducible rfl
                simp only [List.setIfInBounds_toArray, List.set_cons_zero, List.set_cons_succ]
                refine take_op (i := 1) (d := 51) (v := ?_) rfl rfl (by kernel_rfl) (by kernel_rfl) (by kernel_rfl) (fun _ _ _ h => h) (Or.inl ⟨by rfl, ?hy1u123⟩) hHeld ?rest1u123
                case hy1u123 =>
                  intro w' hS'
                  obtain ⟨s1, s2, _, _⟩ := hS'
                  go_simp
                  try with_reducible rfl
                simp only [List.setIfInBounds_toArray, List.set_cons_zero, List.set_cons_succ]
                refine take_op (i := 2) (d := 52) (v := ?_) rfl rfl (by kernel_rfl) (by kernel_rfl) (by kernel_rfl) (fun _ _ _ h => h) (Or.inl ⟨by rfl, ?hy2u124⟩) hHeld ?rest2u124
                case hy2u124 =>
                  intro w' hS'
                  obtain ⟨s1, s2, _, _⟩ := hS'
                  go_simp
                  try with_reducible rfl
                simp only [List.setIfInBounds_toArray, List.set_cons_zero, List.set_cons_succ]
                refine take_op (i := 3) (d := 53) (v := ?_) rfl rfl (by kernel_rfl) (by kernel_rfl) (by kernel_rfl) (fun _ _ _ h => h) (Or.inl ⟨by rfl, ?hy3u125⟩) hHeld ?rest3u125
                case hy3u125 =>
                  intro w' hS'
                  obtain ⟨s1, s2, _, _⟩ := hS'
                  go_simp
                  try with_reducible rfl
                simp only [List.setIfInBounds_toArray, List.set_cons_zero, List.set_cons_succ]
                refine take_op (i := 4) (d := 54) (v := ?_) rfl rfl (by kernel_rfl) (by kernel_rfl) (by kernel_rfl) (fun _ _ _ h => h) (Or.inl ⟨by rfl, ?hy4u126⟩) hHeld ?rest4u126
                case hy4u126 =>
                  intro w' hS'
                  obtain ⟨s1, s2, _, _⟩ := hS'
                  go_simp
                  try with_reducible rfl
                simp only [List.setIfInBounds_toArray, List.set_cons_zero, List.set_cons_succ]
                refine take_op (i := 5) (d := 55) (v := ?_) rfl rfl (by kernel_rfl) (by kernel_rfl) (by kernel_rfl) (fun _ _ _ h => h) (Or.inl ⟨by rfl, ?hy5u127⟩) hHeld ?rest5u127
                case hy5u127 =>
                  intro w' hS'
                  obtain ⟨s1, s2, _, _⟩ := hS'
                  go_simp
                  try with_reducible rfl
                simp only [List.setIfInBounds_toArray, List.set_cons_zero, List.set_cons_succ]
                refine take_op (i := 6) (d := 56) (v := ?_) rfl rfl (by kernel_rfl) (by kernel_rfl) (by kernel_rfl) (fun _ _ _ h => h) (Or.inl ⟨by rfl, ?hy6u128⟩) hHeld ?rest6u128
                case hy6u128 =>
                  intro w' hS'
                  obtain ⟨s1, s2, _, _⟩ := hS'
                  go_simp
                  try with_reducible rfl
                simp only [List.setIfInBounds_toArray, List.set_cons_zero, List.set_cons_succ]
                refine take_op (i := 7) (d := 57) (v := ?_) rfl rfl (by kernel_rfl) (by kernel_rfl) (by kernel_rfl) (fun _ _ _ h => h) (Or.inl ⟨by rfl, ?hy7u129⟩) hHeld ?rest7u129
                case hy7u129 =>
                  intro w' hS'
                  obtain ⟨s1, s2, _, _⟩ := hS'
                  go_simp
                  try with_reducible rfl
                simp only [List.setIfInBounds_toArray, List.set_cons_zero, List.set_cons_succ]
                refine take_op (i := 8) (d := 58) (v := ?_) rfl rfl (by kernel_rfl) (by kernel_rfl) (by kernel_rfl) (fun _ _ _ h => h) (Or.inl ⟨by rfl, ?hy8u130⟩) hHeld ?rest8u130
                case hy8u130 =>
                  intro w' hS'
                  obtain ⟨s1, s2, _, _⟩ := hS'
                  go_simp
                  try with_reducible rfl
                simp only [List.setIfInBounds_toArray, List.set_cons_zero, List.set_cons_succ]
                refine take_op (i := 9) (d := 59) (v := ?_) rfl rfl (by kernel_rfl) (by kernel_rfl) (by kernel_rfl) (fun _ _ _ h => h) (Or.inl ⟨by rfl, ?hy9u131⟩) hHeld ?rest9u131
                case hy9u131 =>
                  intro w' hS'
                  obtain ⟨s1, s2, _, _⟩ := hS'
                  go_simp
                  try with_reducible rfl
                simp only [List.setIfInBounds_toArray, List.set_cons_zero, List.set_cons_succ]
                refine take_op (i := 10) (d := 60) (v := ?_) rfl rfl (by kernel_rfl) (by kernel_rfl) (by kernel_rfl) (fun _ _ _ h => h) (Or.inl ⟨by rfl, ?hy10u132⟩) hHeld ?rest10u132
                case hy10u132 =>
                  intro w' hS'
                  obtain ⟨s1, s2, _, _⟩ := hS'
                  go_simp
                  try with_reducible rfl
                simp only [List.setIfInBounds_toArray, List.set_cons_zero, List.set_cons_succ]
                refine take_op (i := 11) (d := 61) (v := ?_) rfl rfl (by kernel_rfl) (by kernel_rfl) (by kernel_rfl) (fun _ _ _ h => h) (Or.inl ⟨by rfl, ?hy11u133⟩) hHeld ?rest11u133
                case hy11u133 =>
                  intro w' hS'
                  obtain ⟨s1, s2, _, _⟩ := hS'
                  go_simp
                  try with_reducible rfl
                simp only [List.setIfInBounds_toArray, List.set_cons_zero, List.set_cons_succ]
                refine take_op (i := 12) (d := 62) (v := ?_) rfl rfl (by kernel_rfl) (by kernel_rfl) (by kernel_rfl) (fun _ _ _ h => h) (Or.inl ⟨by rfl, ?hy12u134⟩) hHeld ?rest12u134
                case hy12u134 =>
                  intro w' hS'
                  obtain ⟨s1, s2, _, _⟩ := hS'
                  go_simp
                  try with_reducible rfl
                simp only [List.setIfInBounds_toArray, List.set_cons_zero, List.set_cons_succ]
                refine take_op (i := 13) (d := 63) (v := ?_) rfl rfl (by kernel_rfl) (by kernel_rfl) (by kernel_rfl) (fun _ _ _ h => h) (Or.inl ⟨by rfl, ?hy13u135⟩) hHeld ?rest13u135
                case hy13u135 =>
                  intro w' hS'
                  obtain ⟨s1, s2, _, _⟩ := hS'
                  go_simp
                  try with_reducible rfl
                simp only [List.setIfInBounds_toArray, List.set_cons_zero, List.set_cons_succ]
                refine take_op (i := 14) (d := 64) (v := ?_) rfl rfl (by kernel_rfl) (by kernel_rfl) (by kernel_rfl) (fun _ _ _ h => h) (Or.inl ⟨by rfl, ?hy14u136⟩) hHeld ?rest14u136
                case hy14u136 =>
                  intro w' hS'
                  obtain ⟨s1, s2, _, _⟩ := hS'
                  go_simp
                  try with_reducible rfl
                simp only [List.setIfInBounds_toArray, List.set_cons_zero, List.set_cons_succ]
                refine wpAnyH_done (by kernel_rfl) ?_ _
                have hrx := hHeld.2.2.1
                have hbx := hHeld.2.2.2
                clear hHeld hb ca cb hrow
                have HRX := Lib.hid hrx
                clear hrx
                go_wp2
                go_roundw
                case rel => exact ⟨b + 1, by omega, by go_num, HL.out, HRX.out, hbx⟩
                case measure => simp [intOf]; omega
            · obtain rfl : b = n := by omega
              have HBE := Lib.hid (HEQ.out x b ⟨Nat.le_refl _, HLow.out, fun h => absurd h (Nat.lt_irrefl _)⟩)
              have z6 : decide ((b : Int) < (b : Int)) = false := decide_eq_false (by omega)
              go_wp2
              refine wp_region_held_drew (S := (fun V => CntRow V G bs zs b k ∧ Below w.heap.size w V)) (by kernel_rfl) ⟨cnt_drew hrow, hb.drew⟩ (fun hHeld => ?_)
              refine take_op (i := 0) (d := 50) (v := ?_) rfl rfl (by kernel_rfl) (by kernel_rfl) (by kernel_rfl) (fun _ _ _ h => h) (Or.inl ⟨by rfl, ?hy0u137⟩) hHeld ?rest0u137
              case hy0u137 =>
                intro w' hS'
                go_simp
                try with_reducible rfl
              simp only [List.setIfInBounds_toArray, List.set_cons_zero, List.set_cons_succ]
              refine take_op (i := 1) (d := 51) (v := ?_) rfl rfl (by kernel_rfl) (by kernel_rfl) (by kernel_rfl) (fun _ _ _ h => h) (Or.inl ⟨by rfl, ?hy1u138⟩) hHeld ?rest1u138
              case hy1u138 =>
                intro w' hS'
                go_simp
                try with_reducible rfl
              simp only [List.setIfInBounds_toArray, List.set_cons_zero, List.set_cons_succ]
              refine take_op (i := 2) (d := 52) (v := ?_) rfl rfl (by kernel_rfl) (by kernel_rfl) (by kernel_rfl) (fun _ _ _ h => h) (Or.inl ⟨by rfl, ?hy2u139⟩) hHeld ?rest2u139
              case hy2u139 =>
                intro w' hS'
                go_simp
                try with_reducible rfl
              simp only [List.setIfInBounds_toArray, List.set_cons_zero, List.set_cons_succ]
              refine take_op (i := 3) (d := 53) (v := ?_) rfl rfl (by kernel_rfl) (by kernel_rfl) (by kernel_rfl) (fun _ _ _ h => h) (Or.inl ⟨by rfl, ?hy3u140⟩) hHeld ?rest3u140
              case hy3u140 =>
                intro w' hS'
                go_simp
                try with_reducible rfl
              simp only [List.setIfInBounds_toArray, List.set_cons_zero, List.set_cons_succ]
              refine take_op (i := 4) (d := 54) (v := ?_) rfl rfl (by kernel_rfl) (by kernel_rfl) (by kernel_rfl) (fun _ _ _ h => h) (Or.inl ⟨by rfl, ?hy4u141⟩) hHeld ?rest4u141
              case hy4u141 =>
                intro w' hS'
                go_simp
                try with_reducible rfl
              simp only [List.setIfInBounds_toArray, List.set_cons_zero, List.set_cons_succ]
              refine take_op (i := 5) (d := 55) rfl rfl (by kernel_rfl) (by kernel_rfl) (by kernel_rfl) (fun _ _ _ h => h) (Or.inr ⟨by rfl, rfl⟩) hHeld ?_
              simp only [List.setIfInBounds_toArray, List.set_cons_zero, List.set_cons_succ]
              refine take_op (i := 6) (d := 56) rfl rfl (by kernel_rfl) (by kernel_rfl) (by kernel_rfl) (fun _ _ _ h => h) (Or.inr ⟨by rfl, rfl⟩) hHeld ?_
              simp only [List.setIfInBounds_toArray, List.set_cons_zero, List.set_cons_succ]
              refine take_op (i := 7) (d := 57) rfl rfl (by kernel_rfl) (by kernel_rfl) (by kernel_rfl) (fun _ _ _ h => h) (Or.inr ⟨by rfl, rfl⟩) hHeld ?_
              simp only [List.setIfInBounds_toArray, List.set_cons_zero, List.set_cons_succ]
              refine take_op (i := 8) (d := 58) rfl rfl (by kernel_rfl) (by kernel_rfl) (by kernel_rfl) (fun _ _ _ h => h) (Or.inr ⟨by rfl, rfl⟩) hHeld ?_
              simp only [List.setIfInBounds_toArray, List.set_cons_zero, List.set_cons_succ]
              refine take_op (i := 9) (d := 59) rfl rfl (by kernel_rfl) (by kernel_rfl) (by kernel_rfl) (fun _ _ _ h => h) (Or.inr ⟨by rfl, rfl⟩) hHeld ?_
              simp only [List.setIfInBounds_toArray, List.set_cons_zero, List.set_cons_succ]
              refine take_op (i := 10) (d := 60) rfl rfl (by kernel_rfl) (by kernel_rfl) (by kernel_rfl) (fun _ _ _ h => h) (Or.inr ⟨by rfl, rfl⟩) hHeld ?_
              simp only [List.setIfInBounds_toArray, List.set_cons_zero, List.set_cons_succ]
              refine take_op (i := 11) (d := 61) rfl rfl (by kernel_rfl) (by kernel_rfl) (by kernel_rfl) (fun _ _ _ h => h) (Or.inr ⟨by rfl, rfl⟩) hHeld ?_
              simp only [List.setIfInBounds_toArray, List.set_cons_zero, List.set_cons_succ]
              refine take_op (i := 12) (d := 62) rfl rfl (by kernel_rfl) (by kernel_rfl) (by kernel_rfl) (fun _ _ _ h => h) (Or.inr ⟨by rfl, rfl⟩) hHeld ?_
              simp only [List.setIfInBounds_toArray, List.set_cons_zero, List.set_cons_succ]
              refine take_op (i := 13) (d := 63) rfl rfl (by kernel_rfl) (by kernel_rfl) (by kernel_rfl) (fun _ _ _ h => h) (Or.inr ⟨by rfl, rfl⟩) hHeld ?_
              simp only [List.setIfInBounds_toArray, List.set_cons_zero, List.set_cons_succ]
              refine take_op (i := 14) (d := 64) (v := ?_) rfl rfl (by kernel_rfl) (by kernel_rfl) (by kernel_rfl) (fun _ _ _ h => h) (Or.inl ⟨by rfl, ?hy14u142⟩) hHeld ?rest14u142
              case hy14u142 =>
                intro w' hS'
                go_simp
                try with_reducible rfl
              simp only [List.setIfInBounds_toArray, List.set_cons_zero, List.set_cons_succ]
              refine wpAnyH_done (by kernel_rfl) ?_ _
              have hrx := hHeld.1
              have hbx := hHeld.2
              clear hHeld hb hrow
              obtain ⟨q1, q2⟩ := HCL.out _ b hbn hrx
              obtain ⟨hv0, hv1⟩ := HV.out b
              have HST2 := Lib.hid (HST.out _ b HBE.out hbn hrx)
              clear hrx
              generalize cntF bs zs k b = v at *
              go_wp2
              go_roundw
              case rel => exact ⟨k + 1, by omega, by go_num, hbx.setCell (p := ⟨G, b, none⟩) HG.out _, HST2.out⟩
              case measure => simp [intOf]; omega
        · obtain rfl : k = zs.length := by omega
          have HO := Lib.hid (HOWN.out _ _ hrow HG.out)
          clear hrow
          go_wp2
          go_ret2
          exact ⟨⟨_, rfl, HO.out⟩, hb⟩

end Go.Proofs.Ytjpnbcfdnolcjaa
