/-
  MedianVote: the model, at votes that are parts.

-/
import Derived.Test.YtmbgmpeiicjlaaaMvS
import Derived.Deep.CutBlock
import Derived.Deep.DeepCutAuto

namespace Go.Proofs.Ytmbgmpeiicjlaaa

open Go.ChangeShapes Go.WideShapes Go.ChangeAt Go.RowKit Go.Deep Go.Joins

attribute [local go_sem] run_store_f

theorem abs_anyV {P : Program} {md : Region.Mode} {ops : Array Oper} {Q : Exit → Act → World → Prop} {S : World → Prop} {fuel : Nat} {listed : Array Bool} {a : Act} {w : World} (R : World → Prop) (hw : R w) (h : ∀ V, R V → wpAnyH P md ops Q S fuel listed a V) : wpAnyH P md ops Q S fuel listed a w := h w hw

theorem floats_one {l : List Nat} : ∀ u ∈ l.map (Value.float .f32), u.oneCell' = true := by
  intro u hu
  obtain ⟨x, _, rfl⟩ := List.mem_map.1 hu
  rfl

set_option maxRecDepth 100000 in
set_option maxHeartbeats 8000000 in
theorem sMedianVote_yes (sv : Value) (zs : List Nat) (hwf : ∀ z ∈ zs, (Lit.float .f32 z).wf = true) (w : World) (hzs : FloatsAt w sv zs) (hok : okVs zs = true) :
    Calls Try.prog 4 #[sv] w fun e w' => e = .returned (.tuple #[.float .f32 (middS (sortV zs)), .int .i64 0]) ∧ Below w.heap.size w w' := by
  have HC := Lib.hid (l05Votes_any sv zs w hzs)
  rw [hok] at HC
  obtain ⟨h1, h12, hp⟩ := okVs_get hwf hok
  have HQ : Hid (∀ z ∈ sortV zs, PlnV z) := Lib.hid (fun z hz => part_pln (hp z ((fold_mem mvLt z zs [] hz).resolve_left (fun h => by cases h))))
  obtain ⟨i0, hin, hz0, hz1, hz2⟩ := info_parts info_f32
  obtain ⟨x0, hx0⟩ : ∃ x, zs[0]? = some x := ⟨_, List.getElem?_eq_getElem (by omega)⟩
  have HZ := Lib.hid hzs
  obtain ⟨a, cap, rfl, hl1, hl2, -⟩ := id hzs
  obtain ⟨g, o, rfl, -⟩ := float_at hzs hx0
  have HV : Hid (∀ (k : Nat) (W : World), k < zs.length → Below w.heap.size w W → W.cell? ⟨g, o + k, none⟩ = some (.float .f32 (zs.getD k 0))) := Lib.hid (fun k W hk hb => by
    obtain ⟨g', o', e, c0⟩ := float_at HZ.out (show zs[k]? = some (zs.getD k 0) from getD_get hk)
    injection e with e
    injection e with e1 e2
    subst e1
    subst e2
    exact cell_below hb c0)
  clear hx0 hok hwf hzs HZ hp
  go_enter Try.func4, Try.ntmps4
  go_upto_region 4 with (go_at_call 9; refine HC.out.mono ?_; rintro e w' ⟨rfl, rfl⟩)
  have hb0 : Below w.heap.size w (w.alloc (.cells #[] 23)) := (Below.refl _ _).alloc (Nat.le_refl _) _
  have ho0 : (w.alloc (.cells #[] 23)).ownsRow w.heap.size 23 1 (.slice (some ⟨w.heap.size, 0, none⟩) 0 0) 0 ((sortV (zs.take 0)).map (Value.float .f32)) := World.ownsRow_made _ _ _ (Nat.le_refl _) (Nat.zero_le _) rfl
  go_wp2
  go_loopw [4, 5] (fun sl i wr => ∃ k g2 c2 : Nat, k ≤ zs.length ∧ i = .int .i64 (k : Int) ∧ sl = (.slice (some ⟨g2, 0, none⟩) k c2) ∧ wr.ownsRow w.heap.size 23 1 (.slice (some ⟨g2, 0, none⟩) k c2) k ((sortV (zs.take k)).map (Value.float .f32)) ∧ Below w.heap.size w wr) (fun _ i _ => zs.length - (intOf i).toNat)
  case atStart => exact ⟨0, w.heap.size, 0, Nat.zero_le _, rfl, rfl, ho0, hb0⟩
  case round =>
    clear hb0 ho0
    obtain ⟨k, g2, c2, hk, rfl, rfl, hown, hb⟩ := hrel
    have HO := Lib.hid hown
    by_cases hlt : k < zs.length
    · have z1 : (k : Int) < (zs.length : Int) := by omega
      obtain ⟨l, hl⟩ : ∃ l, l = sortV (zs.take k) := ⟨_, rfl⟩
      have hll : l.length = k := by rw [hl, sortV_len, List.length_take]; omega
      obtain ⟨x, hx⟩ : ∃ x, x = zs.getD k 0 := ⟨_, rfl⟩
      rw [← hl] at HO
      have HLE := Lib.hid hl
      have HXE := Lib.hid hx
      clear hown hl hx
      go_upto_block 2 with (fail)
      go_cut [6] (fun at' wr2 => ∃ j : Nat, j ≤ k ∧ at' = .int .i64 (j : Int) ∧ atI mvLt x l.reverse = j ∧ wr2.ownsRow w.heap.size 23 1 (.slice (some ⟨g2, 0, none⟩) k c2) k (l.map (Value.float .f32)) ∧ Below w.heap.size w wr2)
      case first =>
        go_wp2_with (fail)
        go_loopw [6] (fun at' wr2 => ∃ j : Nat, j ≤ k ∧ at' = .int .i64 (j : Int) ∧ (∀ i, j ≤ i → i < l.length → mvLt x (l.getD i 0) = true) ∧ wr2.ownsRow w.heap.size 23 1 (.slice (some ⟨g2, 0, none⟩) k c2) k (l.map (Value.float .f32)) ∧ Below w.heap.size w wr2) (fun at' _ => (intOf at').toNat)
        case atStart => exact ⟨k, Nat.le_refl _, rfl, fun i h1 h2 => by omega, HO.out, hb⟩
        case round =>
          clear HO hb
          obtain ⟨j, hj, rfl, hall, hown, hb⟩ := hrel
          have HO := Lib.hid hown
          have HA := Lib.hid hall
          have hcx := HV.out k wr hlt hb
          rw [← HXE.out] at hcx
          clear hown hall
          by_cases hj0 : 0 < j
          · obtain ⟨y, hy⟩ : ∃ y, y = l.getD (j - 1) 0 := ⟨_, rfl⟩
            have hcy : wr.cell? ⟨g2, j - 1, none⟩ = some (.float .f32 y) := owns_get HO.out (by rw [List.getElem?_map, getD_get (by omega), hy]; rfl)
            have HY := Lib.hid hy
            clear hy
            have y1 : (0 : Int) < (j : Int) := by omega
            have y2 : ((j - 1 : Nat) : Int) = (j : Int) - 1 := by omega
            have y3 : IntKind.i64.wrap ((j : Int) - 1) = (j : Int) - 1 := by rw [IntWalk.i64_in _ (by omega)]
            have y4 : (j : Int) - 1 < (k : Int) := by omega
            have y5 : (0 : Int) ≤ (j : Int) - 1 := by omega
            have y6 : ((j : Int) - 1).toNat = j - 1 := by omega
            cases hv : mvLt x y with
            | true =>
              have hv2 : (FloatKind.f32.format.order x y == some Ordering.lt) = true := hv
              go_wp2
              go_quiet (fail)
              go_wp2
              go_roundw
              case rel => exact ⟨j - 1, by omega, by congr 1; omega, fun i h1 h2 => by
                by_cases e : i = j - 1
                · rw [e, ← HY.out]; exact hv
                · exact HA.out i (by omega) h2, owns_drew HO.out _, below_drew hb _⟩
              case measure => simp [intOf]; omega
            | false =>
              have hv2 : (FloatKind.f32.format.order x y == some Ordering.lt) = false := hv
              have HAT := Lib.hid (at_stop mvLt x l j (by omega) HA.out (.inr (by rw [← HY.out]; exact hv)))
              clear HA HY
              go_wp2
              go_quiet (fail)
              go_wp2
              go_meet
              case rel => exact ⟨j, hj, rfl, HAT.out, owns_drew HO.out _, below_drew hb _⟩
          · obtain rfl : j = 0 := by omega
            have HAT := Lib.hid (at_stop mvLt x l 0 (by omega) HA.out (.inl rfl))
            go_wp2
            go_quiet (fail)
            go_wp2
            go_meet
            case rel => exact ⟨0, Nat.zero_le _, rfl, HAT.out, owns_drew HO.out _, below_drew hb _⟩
      case rest =>
        clear HO hb
        obtain ⟨j, hj, rfl, hat, hown, hb⟩ := hcut
        have HAT := Lib.hid hat
        have HO := Lib.hid hown
        clear hat hown
        have hkc : k ≤ c2 ∧ c2 ≤ maxLen ∧ g2 < wc.heap.size ∧ w.heap.size ≤ g2 := by
          obtain ⟨_, ⟨he, _⟩ | ⟨g', c', cur, he, q1, q2, q4, q5, _⟩⟩ := HO.out
          · cases he
          · injection he with e1 _ e3
            injection e1 with e1
            injection e1 with e1 _
            subst e1
            subst e3
            exact ⟨q4, q5, (Array.getElem?_eq_some_iff.1 q2).1, q1⟩
        have hm := hkc.2.1
        unfold maxLen at hm
        have w1 : (0 : Int) ≤ (j : Int) := by omega
        have w2 : (j : Int) ≤ (k : Int) := by omega
        have w3 : (k : Int) ≤ (c2 : Int) := by omega
        have w4 : (j : Int).toNat = j := by omega
        obtain ⟨m, hm0⟩ : ∃ m, m = k - j := ⟨_, rfl⟩
        have hkm : m ≤ 12 := by omega
        go_upto_region 10 with (fail)
        go_cut [7] (fun r wx => ∃ g3 c3 : Nat, r = .slice (some ⟨g3, 0, none⟩) m c3 ∧ g2 < g3 ∧ wx.ownsRow w.heap.size 23 1 (.slice (some ⟨g3, 0, none⟩) m c3) m ((l.drop j).map (Value.float .f32)) ∧ wx.ownsRow w.heap.size 23 1 (.slice (some ⟨g2, 0, none⟩) k c2) k (l.map (Value.float .f32)) ∧ Below w.heap.size w wx)
        case first =>
          obtain ⟨G, hG⟩ : ∃ G, G = wc.heap.size := ⟨_, rfl⟩
          have hoG : (wc.alloc (.cells #[] 23)).ownsRow wc.heap.size 23 1 (.slice (some ⟨wc.heap.size, 0, none⟩) 0 0) 0 ([]) := World.ownsRow_made _ _ _ (Nat.le_refl _) (Nat.zero_le _) rfl
          have hoS := HO.out.alloc (.cells #[] 23)
          have HNW : Hid (∀ i u, ((l.drop j).map (Value.float .f32))[i]? = some u → (wc.alloc (.cells #[] 23)).cell? ((⟨g2, j, none⟩ : Addr).add i) = some u) := Lib.hid (fun i u hu => by
            rw [addr_add]
            refine owns_get hoS ?_
            rw [← hu, List.getElem?_map, List.getElem?_map, List.getElem?_drop])
          by_cases hjc : j = c2
          · go_wp2_with (fail)
            obtain rfl : m = 0 := by omega
            go_meet
            case rel => exact ⟨wc.heap.size, 0, rfl, hkc.2.2.1, by rw [show l.drop j = [] from List.drop_of_length_le (by omega)]; exact owns_base hoG hb.size, hoS, hb.alloc hb.size (.cells #[] 23)⟩
          · have hjc2 : ¬ (j : Int) = (c2 : Int) := by omega
            go_wp2_with (at_builtin; go_loud (refine wpList_append_own _ rfl _ _ 22 rfl wc.heap.size 23 i0 (.float .f32 0) 1 4 Try.underlying22 hin hz0 hz1 hz2 rfl (by decide) _ _ _ rfl hoG ⟨g2, j, none⟩ (k - j) (c2 - j) ((l.drop j).map (Value.float .f32)) rfl (by rw [List.length_map, List.length_drop, hll, Nat.mul_one]) HNW.out floats_one (by unfold maxLen; omega) (by omega) (by simp) ?_); go_loud (intro v' w1 hown' hgrow hnil; rw [List.nil_append, Nat.zero_add, ← hm0] at hown'; have hv' : v' ≠ .slice none 0 0 := (fun e => by have := (hnil.1 e).1; cases this); obtain ⟨g3, c3, rfl, h3, h4, h5, h6⟩ := owns_some hown' hv'; have hb9 := (hb.alloc hb.size (.cells #[] 23)).grown hgrow (by have := hb.size; simp; omega) (fun k' e' => by have := (hoG.lt k' e').1; have := hb.size; omega); have hoS9 := hoS.kept hgrow (Or.inr (fun e' => by have := Option.some.inj (show some g2 = some wc.heap.size from e'); omega))))
            go_meet
            case rel => exact ⟨g3, c3, by rw [hm0], by omega, owns_base hown' hb.size, hoS9, hb9⟩
        case rest =>
          clear HO hb
          obtain ⟨g3, c3, rfl, h3, howr, hown, hb⟩ := hcut
          have HR := Lib.hid howr
          have HO := Lib.hid hown
          have HLS : Hid ((l.take j).map (Value.float .f32) ++ [.float .f32 x] ++ (l.drop j).map (Value.float .f32) = (sortV (zs.take (k + 1))).map (Value.float .f32)) := Lib.hid (by
            have e1 : sortV (zs.take (k + 1)) = insL mvLt (sortV (zs.take k)) (zs.getD k 0) := fold_snoc mvLt zs k hlt
            rw [e1, ← HLE.out, ← HXE.out, insL_at, HAT.out]
            simp)
          have hj63 : j + 1 ≤ 12 := by omega
          have hjm : j + 1 + m = k + 1 := by omega
          have hjc9 : j ≤ c2 := by omega
          have hlj : (l.take j).length = j := by rw [List.length_take]; omega
          have hld : (l.drop j).length = m := by rw [List.length_drop]; omega
          clear howr hown HAT HLE hm0
          go_upto_region 11 with (fail)
          refine wp_region_held_drew (S := (fun X => Below w.heap.size w X)) (by kernel_rfl) hb.drew (fun hHeld => ?_)
          have hO : wc.drew.ownsRow w.heap.size 23 1 (.slice (some ⟨g2, 0, none⟩) k c2) k (l.map (Value.float .f32)) := HO.out
          have hR : wc.drew.ownsRow w.heap.size 23 1 (.slice (some ⟨g3, 0, none⟩) m c3) m ((l.drop j).map (Value.float .f32)) := HR.out
          clear HO HR hb
          refine take_op (i := 0) (d := 42) (v := ?_) rfl rfl (by kernel_rfl) (by kernel_rfl) (by kernel_rfl) (fun _ _ _ h => h) (Or.inl ⟨by rfl, ?hy0u1⟩) hHeld ?rest0u1
          case hy0u1 =>
            intro w' hS'
            go_simp
            try with_reducible rfl
          simp only [List.setIfInBounds_toArray, List.set_cons_zero, List.set_cons_succ]
          refine take_op (i := 1) (d := 43) (v := ?_) rfl rfl (by kernel_rfl) (by kernel_rfl) (by kernel_rfl) (fun _ _ _ h => h) (Or.inl ⟨by rfl, ?hy1u2⟩) hHeld ?rest1u2
          case hy1u2 =>
            intro w' hS'
            go_simp
            try with_reducible rfl
          simp only [List.setIfInBounds_toArray, List.set_cons_zero, List.set_cons_succ]
          refine take_op (i := 2) (d := 44) (v := ?_) rfl rfl (by kernel_rfl) (by kernel_rfl) (by kernel_rfl) (fun _ _ _ h => h) (Or.inl ⟨by rfl, ?hy2u3⟩) hHeld ?rest2u3
          case hy2u3 =>
            intro w' hS'
            go_simp
            try with_reducible rfl
          simp only [List.setIfInBounds_toArray, List.set_cons_zero, List.set_cons_succ]
          refine take_op (i := 3) (d := 45) (v := ?_) rfl rfl (by kernel_rfl) (by kernel_rfl) (by kernel_rfl) (fun _ _ _ h => h) (Or.inl ⟨by rfl, ?hy3u4⟩) hHeld ?rest3u4
          case hy3u4 =>
            intro w' hS'
            go_simp
            try with_reducible rfl
          simp only [List.setIfInBounds_toArray, List.set_cons_zero, List.set_cons_succ]
          refine take_op (i := 4) (d := 46) (v := ?_) rfl rfl (by kernel_rfl) (by kernel_rfl) (by kernel_rfl) (fun _ _ _ h => h) (Or.inl ⟨by rfl, ?hy4u5⟩) hHeld ?rest4u5
          case hy4u5 =>
            intro w' hS'
            go_simp
            try with_reducible rfl
          simp only [List.setIfInBounds_toArray, List.set_cons_zero, List.set_cons_succ]
          refine take_op (i := 5) (d := 47) (v := ?_) rfl rfl (by kernel_rfl) (by kernel_rfl) (by kernel_rfl) (fun _ _ _ h => h) (Or.inl ⟨by rfl, ?hy5u6⟩) hHeld ?rest5u6
          case hy5u6 =>
            intro w' hS'
            go_simp
            try with_reducible rfl
          simp only [List.setIfInBounds_toArray, List.set_cons_zero, List.set_cons_succ]
          refine take_op (i := 6) (d := 48) (v := ?_) rfl rfl (by kernel_rfl) (by kernel_rfl) (by kernel_rfl) (fun _ _ _ h => h) (Or.inl ⟨by rfl, ?hy6u7⟩) hHeld ?rest6u7
          case hy6u7 =>
            intro w' hS'
            have hcx := HV.out k w' hlt hS'
            rw [← HXE.out] at hcx
            go_simp
            try with_reducible rfl
          simp only [List.setIfInBounds_toArray, List.set_cons_zero, List.set_cons_succ]
          refine take_op (i := 9) (d := 51) (v := ?_) rfl rfl (by kernel_rfl) (by kernel_rfl) (by kernel_rfl) (fun _ _ _ h => h) (Or.inl ⟨by rfl, ?hy9u8⟩) hHeld ?rest9u8
          case hy9u8 =>
            intro w' hS'
            go_simp
            try with_reducible rfl
          simp only [List.setIfInBounds_toArray, List.set_cons_zero, List.set_cons_succ]
          refine wpAnyH_ready (rs := [7]) (by kernel_rfl) (by simp) ?_
          refine AllReadyH.cons rfl (fun K hK => ?_) AllReadyH.nil
          go_simp
          refine hK.out _ _ (hHeld.alloc hHeld.size (.cells #[.float .f32 x] 23)) (fun _ => ?_)
          clear hK K
          obtain ⟨G8, hG8⟩ : ∃ G, G = wc.heap.size := ⟨_, rfl⟩
          have hk8 : (wc.drew.alloc (.cells #[.float .f32 x] 23)).heap[wc.heap.size]? = some (.cells #[.float .f32 x] 23 (0, 0)) := heap_alloc_new _ _
          rw [← hG8] at hk8 ⊢
          refine abs_anyV (fun X => Below w.heap.size w X ∧ X.ownsRow w.heap.size 23 1 (.slice (some ⟨g2, 0, none⟩) k c2) k (l.map (Value.float .f32)) ∧ X.ownsRow w.heap.size 23 1 (.slice (some ⟨g3, 0, none⟩) m c3) m ((l.drop j).map (Value.float .f32)) ∧ X.heap[G8]? = some (.cells #[.float .f32 x] 23 (0, 0))) ⟨hHeld.alloc hHeld.size _, hO.alloc _, hR.alloc _, hk8⟩ ?_
          rintro X ⟨hHeld, hO, hR, hk8⟩
          refine wpAnyH_ready (rs := [8]) (by kernel_rfl) (by simp) ?_
          refine AllReadyH.cons rfl (fun K hK => ?_) AllReadyH.nil
          show Oper.wp _ _ _ _ _ _
          clear hG8
          refine wp_append_own_at (.tmp 44) (.tmp 49) 22 rfl w.heap.size 23 i0 (.float .f32 0) 1 4 Try.underlying22 hin hz0 hz1 hz2 rfl (by decide) _ _ _ rfl (owns_take hO hj) ⟨G8, 0, none⟩ 1 1 ([.float .f32 x]) rfl rfl (fun q u hu => by cases q with | zero => (rw [← hu, addr_add, cell_of_row _ _ _ _ _ _ hk8]; rfl) | succ q => cases hu) (fun u hu => by rw [List.mem_singleton.1 hu]; rfl) (by unfold maxLen; omega) (by omega) hHeld.size ?_
          intro v2 V hown2 hgrow hnil _
          have hnn2 : v2 ≠ .slice none 0 0 := fun e => by have := (hnil.1 e).2; cases this
          have hb2 := hHeld.grown hgrow hHeld.size (fun q e => (hO.lt q e).1)
          have hR2 := hR.kept hgrow (Or.inr (fun e' => by have := Option.some.inj (show some g3 = some g2 from e'); omega))
          refine hK.out _ _ hb2 (fun _ => ?_)
          clear hK K hHeld hO hR hk8
          change wpAnyH _ _ _ _ _ _ _ (Act.put _ (some 50) _) _
          dsimp only [Act.put]
          try simp only [List.setIfInBounds_toArray, List.set_cons_zero, List.set_cons_succ]
          rw [← List.map_take] at hown2
          refine abs_anyV (fun X => Below w.heap.size w X ∧ X.ownsRow w.heap.size 23 1 v2 (j + 1) ((l.take j).map (Value.float .f32) ++ [.float .f32 x]) ∧ X.ownsRow w.heap.size 23 1 (.slice (some ⟨g3, 0, none⟩) m c3) m ((l.drop j).map (Value.float .f32))) ⟨hb2, hown2, hR2⟩ ?_
          rintro X ⟨hHeld, hO2, hR2⟩
          clear hown2 hgrow hnil hb2
          refine wpAnyH_ready (rs := [10]) (by kernel_rfl) (by simp) ?_
          refine AllReadyH.cons rfl (fun K hK => ?_) AllReadyH.nil
          show Oper.wp _ _ _ _ _ _
          refine wp_append_own_at (.tmp 50) (.tmp 51) 22 rfl w.heap.size 23 i0 (.float .f32 0) 1 4 Try.underlying22 hin hz0 hz1 hz2 rfl (by decide) v2 _ _ rfl hO2 ⟨g3, 0, none⟩ m c3 ((l.drop j).map (Value.float .f32)) rfl (by rw [List.length_map, hld, Nat.mul_one]) (fun q u hu => by rw [addr_add, Nat.zero_add]; exact owns_get hR2 hu) floats_one (by unfold maxLen; omega) (by omega) hHeld.size ?_
          intro v3 V3 hown3 hgrow3 hnil3 _
          rw [hjm, HLS.out] at hown3
          obtain ⟨g4, c4, rfl, -⟩ := owns_some hown3 (fun e => hnn2 (hnil3.1 e).1)
          have hb3 := hHeld.grown hgrow3 hHeld.size (fun q e => (hO2.lt q e).1)
          refine hK.out _ _ hb3 (fun hHeld2 => ?_)
          clear hK K hHeld hO2 hR2 hnil3 hgrow3 hnn2
          have hHeld := hHeld2
          clear hHeld2
          have HO3 := Lib.hid hown3
          clear hown3
          change wpAnyH _ _ _ _ _ _ _ (Act.put _ (some 52) _) _
          dsimp only [Act.put]
          try simp only [List.setIfInBounds_toArray, List.set_cons_zero, List.set_cons_succ]
          refine take_op (i := 11) (d := 4) (v := ?_) rfl rfl (by kernel_rfl) (by kernel_rfl) (by kernel_rfl) (fun _ _ _ h => h) (Or.inl ⟨by rfl, ?hy11u9⟩) hHeld ?rest11u9
          case hy11u9 =>
            intro w' hS'
            go_simp
            try with_reducible rfl
          try simp only [List.setIfInBounds_toArray, List.set_cons_zero, List.set_cons_succ]
          refine wpAnyH_done (by kernel_rfl) ?_ _
          clear hHeld
          go_wp2
          go_roundw
          case rel =>
            exact ⟨k + 1, g4, c4, by omega, by go_num, rfl, HO3.out, hb3⟩
          case measure => simp [intOf]; omega
    · obtain rfl : k = zs.length := by omega
      rw [List.take_length] at HO
      clear hown
      obtain ⟨l, hl⟩ : ∃ l, l = sortV zs := ⟨_, rfl⟩
      rw [← hl] at HO HQ
      have hll : zs.length = l.length := by rw [hl, sortV_len]
      have HLE := Lib.hid hl
      clear hl
      obtain ⟨h, hh⟩ : ∃ h, h = zs.length / 2 := ⟨_, rfl⟩
      have hmid : middS l = if l.length % 2 = 1 then l.getD (l.length / 2) 0 else fdiv (fadd (l.getD (l.length / 2 - 1) 0) (l.getD (l.length / 2) 0)) 1073741824 := rfl
      rw [← hll, ← hh] at hmid
      have hkb := getD_get (l := l) (i := h) (by omega)
      obtain ⟨xb, hxb⟩ : ∃ xb, xb = l.getD h 0 := ⟨_, rfl⟩
      rw [← hxb] at hkb hmid
      have cb : wr.cell? ⟨g2, h, none⟩ = some (.float .f32 xb) := owns_get HO.out (by rw [List.getElem?_map, hkb]; rfl)
      have z1 : ((zs.length : Nat) : Int) / 2 = (h : Int) := by omega
      have z2 : ((zs.length : Nat) : Int).tdiv 2 = (h : Int) := by rw [Int.tdiv_eq_ediv_of_nonneg (by omega)]; omega
      have z3 : (h : Int) < ((zs.length : Nat) : Int) := by omega
      have z4 : (0 : Int) ≤ (h : Int) := by omega
      have z9 : IntKind.i64.wrap (h : Int) = (h : Int) := IntWalk.i64_in _ (by omega)
      by_cases hodd : zs.length % 2 = 1
      · rw [if_pos hodd] at hmid
        have HM := Lib.hid hmid
        have z5 : ((zs.length : Nat) : Int) % 2 = 1 := by omega
        have z6 : ((zs.length : Nat) : Int).tmod 2 = 1 := by rw [Int.tmod_eq_emod_of_nonneg (by omega)]; omega
        clear hkb hmid hodd hxb hh hll HQ HO HV HC
        go_wp2
        go_ret2
        exact ⟨by rw [← HLE.out, HM.out]; rfl, hb⟩
      · rw [if_neg hodd] at hmid
        have hka := getD_get (l := l) (i := h - 1) (by omega)
        have pa := get_pln HQ.out (i := h - 1) (by omega)
        have pb := get_pln HQ.out (i := h) (by omega)
        rw [← hxb] at pb
        obtain ⟨xa, hxa⟩ : ∃ xa, xa = l.getD (h - 1) 0 := ⟨_, rfl⟩
        rw [← hxa] at hka hmid pa
        have ca : wr.cell? ⟨g2, h - 1, none⟩ = some (.float .f32 xa) := owns_get HO.out (by rw [List.getElem?_map, hka]; rfl)
        obtain ⟨d1, d2, _⟩ := midd_facts pa pb
        have ra := fun T w => run_float_arith (P := Try.prog) w .add T .f32 _ _ _ d1
        have rq := fun T w => run_float_arith (P := Try.prog) w .quo T .f32 _ _ _ d2
        obtain ⟨s, hs⟩ : ∃ s, s = fadd xa xb := ⟨_, rfl⟩
        rw [← hs] at ra rq hmid
        obtain ⟨q, hq⟩ : ∃ q, q = fdiv s 1073741824 := ⟨_, rfl⟩
        rw [← hq] at rq hmid
        have HM := Lib.hid hmid
        have z5 : ((zs.length : Nat) : Int) % 2 = 0 := by omega
        have z6 : ((zs.length : Nat) : Int).tmod 2 = 0 := by rw [Int.tmod_eq_emod_of_nonneg (by omega)]; omega
        obtain ⟨h', hh'⟩ : ∃ h', h' = h - 1 := ⟨_, rfl⟩
        rw [← hh'] at ca
        have z7 : (h : Int) - 1 = (h' : Int) := by omega
        have z8 : IntKind.i64.wrap (h' : Int) = (h' : Int) := IntWalk.i64_in _ (by omega)
        have z10 : (h' : Int) < ((zs.length : Nat) : Int) := by omega
        have z11 : (0 : Int) ≤ (h' : Int) := by omega
        clear hkb hka hmid hodd hxb hxa hh hh' hll HQ HO HV HC d1 d2 hs hq pa pb
        go_wp2
        go_quiet (fail)
        go_wp2
        go_ret2
        exact ⟨by rw [← HLE.out, HM.out]; rfl, below_drew hb _⟩

end Go.Proofs.Ytmbgmpeiicjlaaa
