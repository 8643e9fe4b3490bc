/-
  The model's sorted list: sorting by exchanges, in memory.
-/
import Derived.Test.YtjpnbcfdnolcjaaSoL
namespace Go.Proofs.Ytjpnbcfdnolcjaa
open Go.ChangeShapes Go.WideShapes Go.ChangeAt Go.RowKit Go.Deep Go.Joins

attribute [local go_sem] run_store_f

/-- A row in memory holds the list. -/
def RowL (W : World) (g : Nat) (L : List Nat) : Prop := ∃ cur : Array Value, W.heap[g]? = some (.cells cur 26 (0, 0)) ∧ L.length ≤ cur.size ∧ ∀ (j x : Nat), L[j]? = some x → cur[j]? = some (Value.float .f32 x)

theorem two_cell {W : World} {g k j : Nat} {cur : Array Value} {E : TypeId} {v : Value} (hg : W.heap[g]? = some (.cells cur E (0, 0))) (hj : cur[j]? = some v) (hne : k ≠ j) (u : Value) : (W.setCell ⟨g, k, none⟩ u).cell? ⟨g, j, none⟩ = some v :=
  cell_k (heap_setCell_same _ _ _ _ _ _ hg) (by rw [Array.getElem?_setIfInBounds, if_neg hne]; exact hj)

theorem two_frozen {W : World} {g k j : Nat} {cur : Array Value} {E : TypeId} (hg : W.heap[g]? = some (.cells cur E (0, 0))) (u : Value) : (W.setCell ⟨g, k, none⟩ u).frozen? ⟨g, j, none⟩ = false :=
  frozen_of_row _ g j _ _ (heap_setCell_same _ _ _ _ _ _ hg)

theorem row_swap {W : World} {g k : Nat} {cur : Array Value} {L : List Nat} (hg : W.heap[g]? = some (.cells cur 26 (0, 0))) (hs : L.length ≤ cur.size) (hp : ∀ (j x : Nat), L[j]? = some x → cur[j]? = some (Value.float .f32 x)) (h1 : 1 ≤ k) (hk : k < L.length) :
    RowL ((W.setCell ⟨g, k, none⟩ (.float .f32 (L.getD (k - 1) 0))).setCell ⟨g, k - 1, none⟩ (.float .f32 (L.getD k 0))) g (swapL L k) := by
  refine ⟨_, heap_setCell_same _ _ _ _ _ _ (heap_setCell_same _ _ _ _ _ _ hg), by rw [swapL_len]; simpa using hs, fun j x hx => ?_⟩
  have hj : j < L.length := by have := (List.getElem?_eq_some_iff.1 hx).1; rwa [swapL_len] at this
  have hx' : (swapL L k).getD j 0 = x := by simp [List.getD, hx]
  rw [swapL_get L h1 hk] at hx'
  rw [Array.getElem?_setIfInBounds, Array.getElem?_setIfInBounds, Array.size_setIfInBounds]
  by_cases c1 : k - 1 = j
  · rw [if_pos c1, if_pos (by omega)]
    rw [if_pos c1.symm] at hx'
    rw [hx']
  · rw [if_neg c1]
    rw [if_neg (fun e => c1 e.symm)] at hx'
    by_cases c2 : k = j
    · rw [if_pos c2, if_pos (by omega)]
      rw [if_pos c2.symm] at hx'
      rw [hx']
    · rw [if_neg c2]
      rw [if_neg (fun e => c2 e.symm)] at hx'
      exact hp j x (by rw [getD_get hj, hx'])

set_option maxRecDepth 100000 in
set_option maxHeartbeats 16000000 in
theorem l06Sorted_any (sv : Value) (zs : List Nat) (hq : ∀ z ∈ zs, PlnOk z) (hlen : zs.length ≤ 48) (w : World) (hz : FloatsAt w sv zs) : Calls Try.prog 65 #[sv] w (SortRet zs w) := by
  obtain ⟨i0, hin, hz0, hz1, hz2⟩ := info_parts info_f32
  have HZ := Lib.hid hz
  have HQ := Lib.hid hq
  obtain ⟨a, cap, rfl, hl, hm, -⟩ := hz
  unfold maxLen at hm
  have hrow0 : (w.alloc (.cells #[] 26)).ownsRow w.heap.size 26 1 (.slice (some ⟨w.heap.size, 0, none⟩) 0 0) 0 [] := World.ownsRow_made _ _ _ (Nat.le_refl _) (Nat.zero_le _) rfl
  have hb0 : Below w.heap.size w (w.alloc (.cells #[] 26)) := (Below.refl _ _).alloc (Nat.le_refl _) _
  cases a with
  | none =>
    have h0 : zs = [] := by
      cases zs with
      | nil => rfl
      | cons z zs =>
        obtain ⟨g, o, e, _⟩ := float_at HZ.out (k := 0) (x := z) rfl
        cases e
    subst h0
    have HR : Hid (Own (w.alloc (.cells #[] 26)) w.heap.size 26 (Value.float .f32) (.slice (some ⟨w.heap.size, 0, none⟩) 0 0) (sortS [])) := by
      have e : sortS [] = [] := List.eq_nil_of_length_eq_zero (sortS_len [])
      rw [e]
      exact Lib.hid (own_base0 hrow0)
    clear hrow0 HQ hq
    go_enter Try.func65, Try.ntmps65
    go_wp2_with (at_builtin; refine wpList_append_nil6 _ rfl _ _ 22 rfl 26 i0 Try.underlying22 hin (some ⟨w.heap.size, 0, none⟩) 0 0 cap rfl (Nat.le_refl _) rfl ?_)
    go_loopw [4] (fun i wr => i = .int .i64 1 ∧ w.alloc (.cells #[] 26) = wr) (fun _ _ => 0)
    case atStart => exact ⟨rfl, rfl⟩
    case round =>
      obtain ⟨rfl, rfl⟩ := hrel
      go_wp2
      go_ret
      exact ⟨_, rfl, HR.out, hb0⟩
  | some ad =>
    have hnews : ∀ j u, (zs.map (Value.float .f32))[j]? = some u → (w.alloc (.cells #[] 26)).cell? (ad.add j) = some u := by
      intro j u hu
      rw [List.getElem?_map, Option.map_eq_some_iff] at hu
      obtain ⟨x, hx, rfl⟩ := hu
      obtain ⟨g, o, e, hc⟩ := float_at (floats_below HZ.out hb0) hx
      have e' := Option.some.inj e
      rw [e', addr_add]
      exact hc
    have HN := Lib.hid hnews
    clear hnews hq
    generalize hn : zs.length = n at *
    have HL := Lib.hid hn
    clear hn
    go_enter Try.func65, Try.ntmps65
    go_wp2_with (at_builtin; refine wpList_append_own _ rfl _ _ 22 rfl w.heap.size 26 i0 (.float .f32 0) 1 4 Try.underlying22 hin hz0 hz1 hz2 rfl (by decide) _ _ _ rfl hrow0 ad n cap (zs.map (Value.float .f32)) rfl (by rw [List.length_map, HL.out]; omega) HN.out (by intro u hu; obtain ⟨x, _, rfl⟩ := List.mem_map.1 hu; rfl) (by unfold maxLen; omega) (by omega) hb0.size ?_; intro v' w1 hown' hgrow hnil)
    have hb1 : Below w.heap.size w w1 := hb0.grown hgrow hb0.size (row_base6 hrow0)
    rw [Nat.zero_add, List.nil_append] at hown'
    have hne : v' ≠ .slice none 0 0 := fun h => by have := (hnil.1 h).1; cases this
    have hrow : ∃ g cap' cur, v' = .slice (some ⟨g, 0, none⟩) n cap' ∧ w.heap.size ≤ g ∧ w1.heap[g]? = some (.cells cur 26 (0, 0)) ∧ n ≤ cap' ∧ cap' ≤ maxLen ∧ zs.length ≤ cur.size ∧ ∀ (j x : Nat), zs[j]? = some x → cur[j]? = some (Value.float .f32 x) := by
      rcases hown'.2 with ⟨e0, _⟩ | ⟨g, cap', cur, rfl, hbg, hg, hnc, hcm, hsz, htk⟩
      · exact absurd e0 hne
      · refine ⟨g, cap', cur, rfl, hbg, hg, hnc, hcm, by rw [HL.out]; omega, fun j x hx => ?_⟩
        have hj := (List.getElem?_eq_some_iff.1 hx).1
        have h1 : (cur.toList.take (n * 1))[j]? = cur[j]? := by
          rw [List.getElem?_take_of_lt (by have := HL.out; omega), Array.getElem?_toList]
        rw [← h1, htk, List.getElem?_map, hx]; rfl
    obtain ⟨g, cap', cur0, rfl, hbg, hg0, hnc, hcm, hsz, hp0⟩ := hrow
    unfold maxLen at hcm
    have HG0 := Lib.hid (show RowL w1 g zs from ⟨cur0, hg0, hsz, hp0⟩)
    clear hown' hgrow hrow0 hb0 hnil hne hg0 hp0 hsz HN HZ
    go_wp2
    go_loopw [4] (fun i wr => ∃ (L : List Nat) (i0 : Nat), 1 ≤ i0 ∧ (i0 = 1 ∨ i0 ≤ n) ∧ i = .int .i64 (i0 : Int) ∧ L.Perm zs ∧ Ord L i0 ∧ RowL wr g L ∧ Below w.heap.size w wr) (fun i _ => n + 1 - (intOf i).toNat)
    case atStart => exact ⟨zs, 1, Nat.le_refl _, .inl rfl, rfl, List.Perm.refl _, fun p q h1 h2 => by omega, HG0.out, hb1⟩
    case round =>
      clear HG0 hb1
      obtain ⟨L, i0, hi1, hin1, rfl, hperm, hord, hrowL, hb⟩ := hrel
      have hLn : L.length = n := by rw [hperm.length_eq, HL.out]
      by_cases hlt : i0 < n
      · have z1 : (i0 : Int) < (n : Int) := by omega
        have z2 : (0 : Int) ≤ (i0 : Int) := by omega
        have HRow := Lib.hid hrowL
        have HMid := Lib.hid (mid_start hord)
        have HPerm := Lib.hid hperm
        clear hrowL hord hperm hLn
        obtain ⟨wo, rfl⟩ : ∃ wo : World, wo = wr := ⟨_, rfl⟩
        go_wp2
        go_loopw [5] (fun kk wr => ∃ (L : List Nat) (k : Nat), k ≤ i0 ∧ kk = .int .i64 (k : Int) ∧ L.Perm zs ∧ Mid L i0 k ∧ RowL wr g L ∧ Below w.heap.size w wr) (fun kk _ => (intOf kk).toNat)
        case atStart => exact ⟨L, i0, Nat.le_refl _, rfl, HPerm.out, HMid.out, HRow.out, hb⟩
        case round =>
          clear HRow HMid HPerm hb L
          obtain ⟨L, k, hk, rfl, hperm, hmid, ⟨cur, hg, hs, hp⟩, hb⟩ := hrel
          have hLn : L.length = n := by rw [hperm.length_eq, HL.out]
          have HP := Lib.hid hp
          have HMid := Lib.hid hmid
          have HPerm := Lib.hid hperm
          clear hp hmid hperm
          rcases Nat.eq_zero_or_pos k with rfl | hk0
          · have z3 : decide ((0 : Int) < ((0 : Nat) : Int)) = false := by decide
            go_wp2
            refine wp_region_held_drew (S := (fun W => W.heap[g]? = some (.cells cur 26 (0, 0)) ∧ Below w.heap.size w W)) (by kernel_rfl) ⟨hg, hb.drew⟩ (fun hHeld => ?_)
            refine take_op (i := 0) (d := 17) (v := ?_) rfl rfl (by kernel_rfl) (by kernel_rfl) (by kernel_rfl) (fun _ _ _ h => h) (Or.inl ⟨by rfl, ?hy0u1⟩) hHeld ?rest0u1
            case hy0u1 =>
              intro w' hS'
              go_simp
              try with_reducible rfl
            simp only [List.setIfInBounds_toArray, List.set_cons_zero, List.set_cons_succ]
            refine take_op (i := 1) (d := 18) (v := ?_) rfl rfl (by kernel_rfl) (by kernel_rfl) (by kernel_rfl) (fun _ _ _ h => h) (Or.inl ⟨by rfl, ?hy1u2⟩) hHeld ?rest1u2
            case hy1u2 =>
              intro w' hS'
              go_simp
              try with_reducible rfl
            simp only [List.setIfInBounds_toArray, List.set_cons_zero, List.set_cons_succ]
            refine take_op (i := 2) (d := 19) (v := ?_) rfl rfl (by kernel_rfl) (by kernel_rfl) (by kernel_rfl) (fun _ _ _ h => h) (Or.inl ⟨by rfl, ?hy2u3⟩) hHeld ?rest2u3
            case hy2u3 =>
              intro w' hS'
              go_simp
              try with_reducible rfl
            simp only [List.setIfInBounds_toArray, List.set_cons_zero, List.set_cons_succ]
            refine take_op (i := 3) (d := 20) rfl rfl (by kernel_rfl) (by kernel_rfl) (by kernel_rfl) (fun _ _ _ h => h) (Or.inr ⟨by rfl, rfl⟩) hHeld ?_
            simp only [List.setIfInBounds_toArray, List.set_cons_zero, List.set_cons_succ]
            refine take_op (i := 4) (d := 21) rfl rfl (by kernel_rfl) (by kernel_rfl) (by kernel_rfl) (fun _ _ _ h => h) (Or.inr ⟨by rfl, rfl⟩) hHeld ?_
            simp only [List.setIfInBounds_toArray, List.set_cons_zero, List.set_cons_succ]
            refine take_op (i := 5) (d := 22) rfl rfl (by kernel_rfl) (by kernel_rfl) (by kernel_rfl) (fun _ _ _ h => h) (Or.inr ⟨by rfl, rfl⟩) hHeld ?_
            simp only [List.setIfInBounds_toArray, List.set_cons_zero, List.set_cons_succ]
            refine take_op (i := 6) (d := 23) rfl rfl (by kernel_rfl) (by kernel_rfl) (by kernel_rfl) (fun _ _ _ h => h) (Or.inr ⟨by rfl, rfl⟩) hHeld ?_
            simp only [List.setIfInBounds_toArray, List.set_cons_zero, List.set_cons_succ]
            refine take_op (i := 7) (d := 24) rfl rfl (by kernel_rfl) (by kernel_rfl) (by kernel_rfl) (fun _ _ _ h => h) (Or.inr ⟨by rfl, rfl⟩) hHeld ?_
            simp only [List.setIfInBounds_toArray, List.set_cons_zero, List.set_cons_succ]
            refine take_op (i := 8) (d := 25) rfl rfl (by kernel_rfl) (by kernel_rfl) (by kernel_rfl) (fun _ _ _ h => h) (Or.inr ⟨by rfl, rfl⟩) hHeld ?_
            simp only [List.setIfInBounds_toArray, List.set_cons_zero, List.set_cons_succ]
            refine take_op (i := 9) (d := 26) rfl rfl (by kernel_rfl) (by kernel_rfl) (by kernel_rfl) (fun _ _ _ h => h) (Or.inr ⟨by rfl, rfl⟩) hHeld ?_
            simp only [List.setIfInBounds_toArray, List.set_cons_zero, List.set_cons_succ]
            refine take_op (i := 10) (d := 27) rfl rfl (by kernel_rfl) (by kernel_rfl) (by kernel_rfl) (fun _ _ _ h => h) (Or.inr ⟨by rfl, rfl⟩) hHeld ?_
            simp only [List.setIfInBounds_toArray, List.set_cons_zero, List.set_cons_succ]
            refine take_op (i := 11) (d := 28) rfl rfl (by kernel_rfl) (by kernel_rfl) (by kernel_rfl) (fun _ _ _ h => h) (Or.inr ⟨by rfl, rfl⟩) hHeld ?_
            simp only [List.setIfInBounds_toArray, List.set_cons_zero, List.set_cons_succ]
            refine take_op (i := 12) (d := 29) rfl rfl (by kernel_rfl) (by kernel_rfl) (by kernel_rfl) (fun _ _ _ h => h) (Or.inr ⟨by rfl, rfl⟩) hHeld ?_
            simp only [List.setIfInBounds_toArray, List.set_cons_zero, List.set_cons_succ]
            refine take_op (i := 13) (d := 30) (v := ?_) rfl rfl (by kernel_rfl) (by kernel_rfl) (by kernel_rfl) (fun _ _ _ h => h) (Or.inl ⟨by rfl, ?hy13u4⟩) hHeld ?rest13u4
            case hy13u4 =>
              intro w' hS'
              go_simp
              try with_reducible rfl
            simp only [List.setIfInBounds_toArray, List.set_cons_zero, List.set_cons_succ]
            refine wpAnyH_done (by kernel_rfl) ?_ _
            have hgx := hHeld.1
            have hbx := hHeld.2
            clear hHeld hb hg

            go_wp2
            go_roundw
            case rel => exact ⟨L, i0 + 1, by omega, .inr (by omega), by go_num, HPerm.out, mid_stop (Nat.zero_le _) HMid.out (.inl rfl), ⟨cur, hgx, by omega, HP.out⟩, hbx⟩
            case measure => simp [intOf]; omega
          · have hka : L[k]? = some (L.getD k 0) := getD_get (by omega)
            have hkb : L[k - 1]? = some (L.getD (k - 1) 0) := getD_get (by omega)
            have hna := (HQ.out _ ((HPerm.out.mem_iff).1 (List.mem_of_getElem? hka))).1
            have hnb := (HQ.out _ ((HPerm.out.mem_iff).1 (List.mem_of_getElem? hkb))).1
            have ca := HP.out _ _ hka
            have cb := HP.out _ _ hkb
            have CA := Lib.hid ca
            have CB := Lib.hid cb
            have q1 := cell_k hg ca
            have q2 := cell_k hg cb
            have HBl := Lib.hid (l06Below_any _ _ hna hnb)
            have HSw := Lib.hid (fun (W : World) (hgW : W.heap[g]? = some (.cells cur 26 (0, 0))) => row_swap (W := W) (g := g) (k := k) (cur := cur) (L := L) hgW hs HP.out (by omega) (by omega))
            have HMs := Lib.hid (fun (h : kI (L.getD k 0) < kI (L.getD (k - 1) 0)) => mid_swap (by omega) hk (by omega) HMid.out h)
            have HMt := Lib.hid (fun (h : kI (L.getD (k - 1) 0) ≤ kI (L.getD k 0)) => mid_stop hk HMid.out (.inr h))
            clear ca cb hka hkb hna hnb
            generalize hxa : L.getD k 0 = xa at *
            generalize hxb : L.getD (k - 1) 0 = xb at *
            have z3 : decide ((0 : Int) < (k : Int)) = true := decide_eq_true (by omega)
            have z4 : (0 : Int) ≤ (k : Int) := by omega
            have z5 : (k : Int) < (n : Int) := by omega
            have z6 : (k : Int) - 1 = ((k - 1 : Nat) : Int) := by omega
            have z7 : IntKind.i64.wrap ((k - 1 : Nat) : Int) = ((k - 1 : Nat) : Int) := IntWalk.i64_in _ (by omega)
            have z8 : ((k - 1 : Nat) : Int) < (n : Int) := by omega
            have z9 : (0 : Int) ≤ ((k - 1 : Nat) : Int) := by omega
            have hne : k ≠ k - 1 := by omega
            have Hk := Lib.hid hk
            have Hk0 := Lib.hid hk0
            clear hxa hxb
            cases hbl : belowB xa xb with
            | true =>
              rw [hbl] at HBl
              have HB := HBl
              have Hlt : Hid (kI xa < kI xb) := Lib.hid (of_decide_eq_true hbl)
              clear hbl HBl
              have HG := Lib.hid hg
              have HBw := Lib.hid hb
              go_wp2
              refine wp_region_held_drew (S := (fun W => W.cell? ⟨g, k, none⟩ = some (.float .f32 xa) ∧ W.cell? ⟨g, k - 1, none⟩ = some (.float .f32 xb) ∧ W.heap[g]? = some (.cells cur 26 (0, 0)) ∧ Below w.heap.size w W)) (by kernel_rfl) ⟨by simpa using q1, by simpa using q2, hg, hb.drew⟩ (fun hHeld => ?_)
              refine take_op (i := 0) (d := 17) (v := ?_) rfl rfl (by kernel_rfl) (by kernel_rfl) (by kernel_rfl) (fun _ _ _ h => h) (Or.inl ⟨by rfl, ?hy0u5⟩) hHeld ?rest0u5
              case hy0u5 =>
                intro w' hS'
                obtain ⟨s1, s2, _, _⟩ := hS'
                go_simp
                try with_reducible rfl
              simp only [List.setIfInBounds_toArray, List.set_cons_zero, List.set_cons_succ]
              refine take_op (i := 1) (d := 18) (v := ?_) rfl rfl (by kernel_rfl) (by kernel_rfl) (by kernel_rfl) (fun _ _ _ h => h) (Or.inl ⟨by rfl, ?hy1u6⟩) hHeld ?rest1u6
              case hy1u6 =>
                intro w' hS'
                obtain ⟨s1, s2, _, _⟩ := hS'
                go_simp
                try with_reducible rfl
              simp only [List.setIfInBounds_toArray, List.set_cons_zero, List.set_cons_succ]
              refine take_op (i := 2) (d := 19) (v := ?_) rfl rfl (by kernel_rfl) (by kernel_rfl) (by kernel_rfl) (fun _ _ _ h => h) (Or.inl ⟨by rfl, ?hy2u7⟩) hHeld ?rest2u7
              case hy2u7 =>
                intro w' hS'
                obtain ⟨s1, s2, _, _⟩ := hS'
                go_simp
                try with_reducible rfl
              simp only [List.setIfInBounds_toArray, List.set_cons_zero, List.set_cons_succ]
              refine take_op (i := 3) (d := 20) (v := ?_) rfl rfl (by kernel_rfl) (by kernel_rfl) (by kernel_rfl) (fun _ _ _ h => h) (Or.inl ⟨by rfl, ?hy3u8⟩) hHeld ?rest3u8
              case hy3u8 =>
                intro w' hS'
                obtain ⟨s1, s2, _, _⟩ := hS'
                go_simp
                try with_reducible rfl
              simp only [List.setIfInBounds_toArray, List.set_cons_zero, List.set_cons_succ]
              refine take_op (i := 4) (d := 21) (v := ?_) rfl rfl (by kernel_rfl) (by kernel_rfl) (by kernel_rfl) (fun _ _ _ h => h) (Or.inl ⟨by rfl, ?hy4u9⟩) hHeld ?rest4u9
              case hy4u9 =>
                intro w' hS'
                obtain ⟨s1, s2, _, _⟩ := hS'
                go_simp
                try with_reducible rfl
              simp only [List.setIfInBounds_toArray, List.set_cons_zero, List.set_cons_succ]
              refine take_op (i := 5) (d := 22) (v := ?_) rfl rfl (by kernel_rfl) (by kernel_rfl) (by kernel_rfl) (fun _ _ _ h => h) (Or.inl ⟨by rfl, ?hy5u10⟩) hHeld ?rest5u10
              case hy5u10 =>
                intro w' hS'
                obtain ⟨s1, s2, _, _⟩ := hS'
                go_simp
                try with_reducible rfl
              simp only [List.setIfInBounds_toArray, List.set_cons_zero, List.set_cons_succ]
              refine take_op (i := 6) (d := 23) (v := ?_) rfl rfl (by kernel_rfl) (by kernel_rfl) (by kernel_rfl) (fun _ _ _ h => h) (Or.inl ⟨by rfl, ?hy6u11⟩) hHeld ?rest6u11
              case hy6u11 =>
                intro w' hS'
                obtain ⟨s1, s2, _, _⟩ := hS'
                go_simp
                try with_reducible rfl
              simp only [List.setIfInBounds_toArray, List.set_cons_zero, List.set_cons_succ]
              refine take_op (i := 7) (d := 24) (v := ?_) rfl rfl (by kernel_rfl) (by kernel_rfl) (by kernel_rfl) (fun _ _ _ h => h) (Or.inl ⟨by rfl, ?hy7u12⟩) hHeld ?rest7u12
              case hy7u12 =>
                intro w' hS'
                obtain ⟨s1, s2, _, _⟩ := hS'
                go_simp
                try with_reducible rfl
              simp only [List.setIfInBounds_toArray, List.set_cons_zero, List.set_cons_succ]
              refine take_op (i := 8) (d := 25) (v := ?_) rfl rfl (by kernel_rfl) (by kernel_rfl) (by kernel_rfl) (fun _ _ _ h => h) (Or.inl ⟨by rfl, ?hy8u13⟩) hHeld ?rest8u13
              case hy8u13 =>
                intro w' hS'
                obtain ⟨s1, s2, _, _⟩ := hS'
                go_simp
                try with_reducible rfl
              simp only [List.setIfInBounds_toArray, List.set_cons_zero, List.set_cons_succ]
              refine take_op (i := 9) (d := 26) (v := ?_) rfl rfl (by kernel_rfl) (by kernel_rfl) (by kernel_rfl) (fun _ _ _ h => h) (Or.inl ⟨by rfl, ?hy9u14⟩) hHeld ?rest9u14
              case hy9u14 =>
                intro w' hS'
                obtain ⟨s1, s2, _, _⟩ := hS'
                go_simp
                try with_reducible rfl
              simp only [List.setIfInBounds_toArray, List.set_cons_zero, List.set_cons_succ]
              refine take_op (i := 10) (d := 27) (v := ?_) rfl rfl (by kernel_rfl) (by kernel_rfl) (by kernel_rfl) (fun _ _ _ h => h) (Or.inl ⟨by rfl, ?hy10u15⟩) hHeld ?rest10u15
              case hy10u15 =>
                intro w' hS'
                obtain ⟨s1, s2, _, _⟩ := hS'
                go_simp
                try with_reducible rfl
              simp only [List.setIfInBounds_toArray, List.set_cons_zero, List.set_cons_succ]
              refine take_op (i := 11) (d := 28) (v := ?_) rfl rfl (by kernel_rfl) (by kernel_rfl) (by kernel_rfl) (fun _ _ _ h => h) (Or.inl ⟨by rfl, ?hy11u16⟩) hHeld ?rest11u16
              case hy11u16 =>
                intro w' hS'
                obtain ⟨s1, s2, _, _⟩ := hS'
                go_simp
                try with_reducible rfl
              simp only [List.setIfInBounds_toArray, List.set_cons_zero, List.set_cons_succ]
              refine wpAnyH_ready (rs := [12]) (by kernel_rfl) (by simp) ?_
              refine AllReadyH.cons rfl (fun K hK => ?_) AllReadyH.nil
              go_simp
              refine (HB.out _).mono ?_
              rintro e w' ⟨rfl, rfl⟩
              refine hK.out _ _ (hHeld) (fun hHeld2 => ?_)
              clear hK K
              replace hHeld := hHeld2
              clear hHeld2
              refine take_op (i := 13) (d := 30) (v := ?_) rfl rfl (by kernel_rfl) (by kernel_rfl) (by kernel_rfl) (fun _ _ _ h => h) (Or.inl ⟨by rfl, ?hy13u17⟩) hHeld ?rest13u17
              case hy13u17 =>
                intro w' hS'
                go_simp
                try with_reducible rfl
              simp only [List.setIfInBounds_toArray, List.set_cons_zero, List.set_cons_succ]
              refine wpAnyH_done (by kernel_rfl) ?_ _
              have hgx := hHeld.2.2.1
              have hbx := hHeld.2.2.2
              clear hHeld q1 q2 hb hg

              clear hgx hbx
              have q1 := cell_k HG.out CA.out
              have q2 := cell_k HG.out CB.out
              have q3 := two_cell (k := k) HG.out CB.out hne
              have q4 := two_frozen (k := k) (j := k - 1) HG.out
              have q5 := frozen_of_row _ g k _ _ HG.out
              go_wp2
              go_roundw
              case rel => exact ⟨swapL L k, k - 1, by omega, by first | rfl | exact congrArg (Value.int .i64) z6, (swapL_perm L (by omega) (by omega)).trans HPerm.out, HMs.out Hlt.out, by have h := HSw.out _ HG.out; exact h, ((HBw.out.setCell (p := ⟨g, k, none⟩) hbg _).setCell (p := ⟨g, k - 1, none⟩) hbg _).drew⟩
              case measure => simp [intOf]; omega
            | false =>
              rw [hbl] at HBl
              have HB := HBl
              have Hlt : Hid (kI xb ≤ kI xa) := Lib.hid (by have := of_decide_eq_false hbl; omega)
              clear hbl HBl
              go_wp2
              refine wp_region_held_drew (S := (fun W => W.cell? ⟨g, k, none⟩ = some (.float .f32 xa) ∧ W.cell? ⟨g, k - 1, none⟩ = some (.float .f32 xb) ∧ W.heap[g]? = some (.cells cur 26 (0, 0)) ∧ Below w.heap.size w W)) (by kernel_rfl) ⟨by simpa using q1, by simpa using q2, hg, hb.drew⟩ (fun hHeld => ?_)
              refine take_op (i := 0) (d := 17) (v := ?_) rfl rfl (by kernel_rfl) (by kernel_rfl) (by kernel_rfl) (fun _ _ _ h => h) (Or.inl ⟨by rfl, ?hy0u18⟩) hHeld ?rest0u18
              case hy0u18 =>
                intro w' hS'
                obtain ⟨s1, s2, _, _⟩ := hS'
                go_simp
                try with_reducible rfl
              simp only [List.setIfInBounds_toArray, List.set_cons_zero, List.set_cons_succ]
              refine take_op (i := 1) (d := 18) (v := ?_) rfl rfl (by kernel_rfl) (by kernel_rfl) (by kernel_rfl) (fun _ _ _ h => h) (Or.inl ⟨by rfl, ?hy1u19⟩) hHeld ?rest1u19
              case hy1u19 =>
                intro w' hS'
                obtain ⟨s1, s2, _, _⟩ := hS'
                go_simp
                try with_reducible rfl
              simp only [List.setIfInBounds_toArray, List.set_cons_zero, List.set_cons_succ]
              refine take_op (i := 2) (d := 19) (v := ?_) rfl rfl (by kernel_rfl) (by kernel_rfl) (by kernel_rfl) (fun _ _ _ h => h) (Or.inl ⟨by rfl, ?hy2u20⟩) hHeld ?rest2u20
              case hy2u20 =>
                intro w' hS'
                obtain ⟨s1, s2, _, _⟩ := hS'
                go_simp
                try with_reducible rfl
              simp only [List.setIfInBounds_toArray, List.set_cons_zero, List.set_cons_succ]
              refine take_op (i := 3) (d := 20) (v := ?_) rfl rfl (by kernel_rfl) (by kernel_rfl) (by kernel_rfl) (fun _ _ _ h => h) (Or.inl ⟨by rfl, ?hy3u21⟩) hHeld ?rest3u21
              case hy3u21 =>
                intro w' hS'
                obtain ⟨s1, s2, _, _⟩ := hS'
                go_simp
                try with_reducible rfl
              simp only [List.setIfInBounds_toArray, List.set_cons_zero, List.set_cons_succ]
              refine take_op (i := 4) (d := 21) (v := ?_) rfl rfl (by kernel_rfl) (by kernel_rfl) (by kernel_rfl) (fun _ _ _ h => h) (Or.inl ⟨by rfl, ?hy4u22⟩) hHeld ?rest4u22
              case hy4u22 =>
                intro w' hS'
                obtain ⟨s1, s2, _, _⟩ := hS'
                go_simp
                try with_reducible rfl
              simp only [List.setIfInBounds_toArray, List.set_cons_zero, List.set_cons_succ]
              refine take_op (i := 5) (d := 22) (v := ?_) rfl rfl (by kernel_rfl) (by kernel_rfl) (by kernel_rfl) (fun _ _ _ h => h) (Or.inl ⟨by rfl, ?hy5u23⟩) hHeld ?rest5u23
              case hy5u23 =>
                intro w' hS'
                obtain ⟨s1, s2, _, _⟩ := hS'
                go_simp
                try with_reducible rfl
              simp only [List.setIfInBounds_toArray, List.set_cons_zero, List.set_cons_succ]
              refine take_op (i := 6) (d := 23) (v := ?_) rfl rfl (by kernel_rfl) (by kernel_rfl) (by kernel_rfl) (fun _ _ _ h => h) (Or.inl ⟨by rfl, ?hy6u24⟩) hHeld ?rest6u24
              case hy6u24 =>
                intro w' hS'
                obtain ⟨s1, s2, _, _⟩ := hS'
                go_simp
                try with_reducible rfl
              simp only [List.setIfInBounds_toArray, List.set_cons_zero, List.set_cons_succ]
              refine take_op (i := 7) (d := 24) (v := ?_) rfl rfl (by kernel_rfl) (by kernel_rfl) (by kernel_rfl) (fun _ _ _ h => h) (Or.inl ⟨by rfl, ?hy7u25⟩) hHeld ?rest7u25
              case hy7u25 =>
                intro w' hS'
                obtain ⟨s1, s2, _, _⟩ := hS'
                go_simp
                try with_reducible rfl
              simp only [List.setIfInBounds_toArray, List.set_cons_zero, List.set_cons_succ]
              refine take_op (i := 8) (d := 25) (v := ?_) rfl rfl (by kernel_rfl) (by kernel_rfl) (by kernel_rfl) (fun _ _ _ h => h) (Or.inl ⟨by rfl, ?hy8u26⟩) hHeld ?rest8u26
              case hy8u26 =>
                intro w' hS'
                obtain ⟨s1, s2, _, _⟩ := hS'
                go_simp
                try with_reducible rfl
              simp only [List.setIfInBounds_toArray, List.set_cons_zero, List.set_cons_succ]
              refine take_op (i := 9) (d := 26) (v := ?_) rfl rfl (by kernel_rfl) (by kernel_rfl) (by kernel_rfl) (fun _ _ _ h => h) (Or.inl ⟨by rfl, ?hy9u27⟩) hHeld ?rest9u27
              case hy9u27 =>
                intro w' hS'
                obtain ⟨s1, s2, _, _⟩ := hS'
                go_simp
                try with_reducible rfl
              simp only [List.setIfInBounds_toArray, List.set_cons_zero, List.set_cons_succ]
              refine take_op (i := 10) (d := 27) (v := ?_) rfl rfl (by kernel_rfl) (by kernel_rfl) (by kernel_rfl) (fun _ _ _ h => h) (Or.inl ⟨by rfl, ?hy10u28⟩) hHeld ?rest10u28
              case hy10u28 =>
                intro w' hS'
                obtain ⟨s1, s2, _, _⟩ := hS'
                go_simp
                try with_reducible rfl
              simp only [List.setIfInBounds_toArray, List.set_cons_zero, List.set_cons_succ]
              refine take_op (i := 11) (d := 28) (v := ?_) rfl rfl (by kernel_rfl) (by kernel_rfl) (by kernel_rfl) (fun _ _ _ h => h) (Or.inl ⟨by rfl, ?hy11u29⟩) hHeld ?rest11u29
              case hy11u29 =>
                intro w' hS'
                obtain ⟨s1, s2, _, _⟩ := hS'
                go_simp
                try with_reducible rfl
              simp only [List.setIfInBounds_toArray, List.set_cons_zero, List.set_cons_succ]
              refine wpAnyH_ready (rs := [12]) (by kernel_rfl) (by simp) ?_
              refine AllReadyH.cons rfl (fun K hK => ?_) AllReadyH.nil
              go_simp
              refine (HB.out _).mono ?_
              rintro e w' ⟨rfl, rfl⟩
              refine hK.out _ _ (hHeld) (fun hHeld2 => ?_)
              clear hK K
              replace hHeld := hHeld2
              clear hHeld2
              refine take_op (i := 13) (d := 30) (v := ?_) rfl rfl (by kernel_rfl) (by kernel_rfl) (by kernel_rfl) (fun _ _ _ h => h) (Or.inl ⟨by rfl, ?hy13u30⟩) hHeld ?rest13u30
              case hy13u30 =>
                intro w' hS'
                go_simp
                try with_reducible rfl
              simp only [List.setIfInBounds_toArray, List.set_cons_zero, List.set_cons_succ]
              refine wpAnyH_done (by kernel_rfl) ?_ _
              have hgx := hHeld.2.2.1
              have hbx := hHeld.2.2.2
              clear hHeld q1 q2 hb hg

              go_wp2
              go_roundw
              case rel => exact ⟨L, i0 + 1, by omega, .inr (by omega), by go_num, HPerm.out, HMt.out Hlt.out, ⟨cur, hgx, by omega, HP.out⟩, hbx⟩
              case measure => simp [intOf]; omega
      · have z1 : (n : Int) ≤ (i0 : Int) := by omega
        have HE : Hid (L = sortS zs) := Lib.hid (ord_end hperm (fun p q h1 h2 => hord p q h1 (by omega)))
        obtain ⟨cur, hg, hs, hp⟩ := hrowL
        have HF : Hid (Own wr w.heap.size 26 (Value.float .f32) (.slice (some ⟨g, 0, none⟩) n cap') (sortS zs)) := by
          rw [← HE.out]
          refine Lib.hid ⟨_, cap', by rw [hLn], by unfold maxLen; omega, by omega, .inr ⟨g, cur, rfl, hbg, hg, fun j hj => ?_⟩⟩
          rw [List.getElem?_eq_getElem hj]
          exact hp j _ (List.getElem?_eq_getElem hj)
        clear hg hs hp hperm hord hLn
        go_wp2
        go_ret
        exact ⟨_, rfl, HF.out, hb⟩

end Go.Proofs.Ytjpnbcfdnolcjaa
