/-
  The order with the greatest sum: the model at a leaf.
-/
import Derived.Test.YtjpnbcfdnolcjabGoS
namespace Go.Proofs.Ytjpnbcfdnolcjab
open Go.ChangeShapes Go.WideShapes Go.ChangeAt Go.RowKit Go.Deep Go.Joins

attribute [local go_sem] run_store_f

theorem own_set {W V : World} {base b j g1 n cap1 : Nat} {u : Value} {xs : List Int} (h : Own V W.heap.size 2 (Value.int .i64) (.slice (some ⟨g1, 0, none⟩) n cap1) xs) (hb : b < W.heap.size) (hB : base ≤ W.heap.size) : Own (V.setCell ⟨b, j, none⟩ u) base 2 (Value.int .i64) (.slice (some ⟨g1, 0, none⟩) n cap1) xs := by
  obtain ⟨a, cap, h1, h2, h3, h4⟩ := h
  refine ⟨a, cap, h1, h2, h3, h4.imp id ?_⟩
  rintro ⟨g, cur, e, hg, hc, hk⟩
  exact ⟨g, cur, e, by omega, by rw [heap_setCell_other _ _ _ _ (by simp; omega)]; exact hc, hk⟩

theorem own_set2 {V : World} {base b j g1 n cap1 : Nat} {u : Value} {xs : List Int} (h : Own V base 2 (Value.int .i64) (.slice (some ⟨g1, 0, none⟩) n cap1) xs) (hb : g1 ≠ b) : Own (V.setCell ⟨b, j, none⟩ u) base 2 (Value.int .i64) (.slice (some ⟨g1, 0, none⟩) n cap1) xs := by
  obtain ⟨a, cap, h1, h2, h3, h4⟩ := h
  refine ⟨a, cap, h1, h2, h3, h4.imp id ?_⟩
  rintro ⟨g, cur, e, hg, hc, hk⟩
  have e2 : g1 = g := by
    rw [e] at h1
    injection h1 with e1
    injection e1 with e1
    injection e1
  subst e2
  exact ⟨g1, cur, e, hg, by rw [heap_setCell_other _ _ _ _ hb]; exact hc, hk⟩

theorem leaf_own {W w1 : World} {n g0 : Nat} {v' v0 : Value} {o : List Nat} (h : w1.ownsRow W.heap.size 2 1 v' (0 + n) ([] ++ o.map encN)) (hg : (W.alloc (.cells #[] 2)).grownBy w1 v0.ownBlock) (hnil : v' = .slice none 0 0 ↔ v0 = .slice none 0 0 ∧ n = 0) (hv0 : v0 = .slice (some ⟨g0, 0, none⟩) 0 0) (hb0 : W.heap.size ≤ g0) :
    ∃ g1 cap1, v' = .slice (some ⟨g1, 0, none⟩) n cap1 ∧ W.heap.size ≤ g1 ∧ g1 < w1.heap.size ∧ Own w1 W.heap.size 2 (Value.int .i64) (.slice (some ⟨g1, 0, none⟩) n cap1) (o.map fun (x : Nat) => (x : Int)) ∧ Below W.heap.size W w1 := by
  rw [List.nil_append, Nat.zero_add] at h
  have hne : v' ≠ .slice none 0 0 := fun e => by have := (hnil.1 e).1; rw [hv0] at this; cases this
  obtain ⟨g1, cap1, rfl, h1, h2, h3, h4, hl, _⟩ := Go.Lib.holds_of_ownsRow (enc := encN) (zs := o) h hne
  refine ⟨g1, cap1, rfl, h1, h2, ?_, ?_⟩
  · have e : o.map encN = (o.map fun (x : Nat) => (x : Int)).map (Value.int .i64) := by rw [List.map_map]; rfl
    rw [e] at h
    have := own_of_row (xs := o.map fun (x : Nat) => (x : Int)) (mk := Value.int .i64) (v := .slice (some ⟨g1, 0, none⟩) n cap1) (W := w1) (base := W.heap.size) (e := 2) (by rw [List.length_map, hl]; exact h) (by rw [List.length_map, hl]; exact Nat.le_trans h3 h4)
    exact this
  · refine ((Below.refl _ _).alloc (Nat.le_refl _) _).grown hg (by simp) (fun k hk => ?_)
    rw [hv0] at hk
    have : g0 = k := by simpa [Value.ownBlock] using hk
    omega

set_option maxRecDepth 100000 in
set_option maxHeartbeats 8000000 in
theorem from_leaf (sv ov : Value) (zs o : List Nat) (b base sm : Nat) (st : Option (List Nat × Nat)) (W : World) (hn : o.length = zs.length) (h48 : zs.length ≤ 48) (hsn : isNum sm) (hst : ∀ s, st = some s → isNum s.2) (hsm : sumP zs o = sm) (hz : FloatsAt W sv zs) (ho : OrdAt W ov o) (hs : SRow W b base sv st) (hbase : base ≤ W.heap.size) :
    Calls Try.prog 59 #[.pointer (some ⟨b, 0, none⟩), ov, .float .f32 sm] W (FromRet (updM zs st o) W b base sv) := by
  obtain ⟨i0, hin, hz0, hz1, hz2⟩ := info_parts info_i64
  obtain ⟨g, ocap, rfl, hoc⟩ := ho
  have hb0 : Below W.heap.size W (W.alloc (.cells #[] 2)) := (Below.refl _ _).alloc (Nat.le_refl _) _
  have HNW : Hid (∀ j u, (o.map encN)[j]? = some u → (W.alloc (.cells #[] 2)).cell? ((⟨g, 0, none⟩ : Addr).add j) = some u) := Lib.hid (fun j u hu => by
    rw [List.getElem?_map, Option.map_eq_some_iff] at hu
    obtain ⟨x, hx, rfl⟩ := hu
    rw [addr_add, Nat.zero_add]
    exact cell_below hb0 (hoc j x hx))
  have HLT := Lib.hid (srow_lt hs)
  obtain ⟨a, cap, rfl, hl, hm, _⟩ := hz
  unfold maxLen at hm
  obtain ⟨bv, hrow, hown⟩ := hs
  have HOWN := Lib.hid hown
  have HROW := Lib.hid hrow
  have q0 := cell_k (k := 0) hrow rfl
  have q2 := cell_k (k := 2) hrow rfl
  have q3 := cell_k (k := 3) hrow rfl
  have zn : ((o.length : Nat) : Int) = (zs.length : Int) := by omega
  have ze : ((zs.length : Int) == (zs.length : Int)) = true := by simp
  clear hown hb0 hoc hrow
  cases st with
  | none =>
    have hu : updM zs none o = some (o, sm) := by rw [updM, hsm]
    rw [hu]
    clear hu hst hsm HOWN hsn
    have HN2 := Lib.hid hn
    rw [hn]
    go_enter Try.func59, Try.ntmps59
    go_upto_region 2 with (fail)
    go_upto_region 3 with (at_builtin; refine wpList_append_own _ rfl _ _ 33 rfl W.heap.size 2 i0 (.int .i64 0) 1 8 Try.underlying33 hin hz0 hz1 hz2 rfl (by decide) _ _ _ rfl (World.ownsRow_made _ _ _ (Nat.le_refl _) (Nat.zero_le _) rfl) ⟨g, 0, none⟩ zs.length ocap (o.map encN) rfl (by rw [List.length_map, HN2.out]; omega) HNW.out (by intro u hu; obtain ⟨x, _, rfl⟩ := List.mem_map.1 hu; rfl) (by unfold maxLen; omega) (by omega) (by simp) ?_; intro v' w1 hown' hgrow hnil; obtain ⟨g1, cap1, rfl, hg1, hg1l, hown1, hw1⟩ := leaf_own hown' hgrow hnil rfl (Nat.le_refl _); have HOW := Lib.hid hown1; have hrow1 := (hw1.block b HLT.out).trans HROW.out; have p1 := cell_k (k := 1) hrow1 rfl; have p2 := frozen_of_row w1 b 1 _ _ hrow1; clear hown' hgrow hnil hown1)
    refine abs_world (fun V => V.heap[b]? = some (.cells #[.slice a zs.length cap, .slice (some ⟨g1, 0, none⟩) zs.length cap1, .float .f32 (mOf none), .bool (Option.isSome (none : Option (List Nat × Nat)))] 53 (0, 0)) ∧ Own V base 2 (Value.int .i64) (.slice (some ⟨g1, 0, none⟩) zs.length cap1) (o.map fun (x : Nat) => (x : Int)) ∧ W.grownBy V (some b)) ⟨heap_setCell_same _ _ _ _ _ _ hrow1, own_set HOW.out (by have := HLT.out; omega) hbase, set_grown (grown_of_below hw1 _)⟩ ?_
    clear hrow1 p1 p2 HOW hw1
    rintro V2 ⟨k1, k2, k3⟩
    have p1 := cell_k (k := 2) k1 rfl
    have p2 := frozen_of_row V2 b 2 _ _ k1
    go_upto_region 4 with (fail)
    refine abs_world (fun V => V.heap[b]? = some (.cells #[.slice a zs.length cap, .slice (some ⟨g1, 0, none⟩) zs.length cap1, .float .f32 sm, .bool (Option.isSome (none : Option (List Nat × Nat)))] 53 (0, 0)) ∧ Own V base 2 (Value.int .i64) (.slice (some ⟨g1, 0, none⟩) zs.length cap1) (o.map fun (x : Nat) => (x : Int)) ∧ W.grownBy V (some b)) ⟨heap_setCell_same _ _ _ _ _ _ k1, own_set2 k2 (by have := HLT.out; omega), set_grown k3⟩ ?_
    clear k1 k2 k3 p1 p2
    rintro V3 ⟨k1, k2, k3⟩
    have p1 := cell_k (k := 3) k1 rfl
    have p2 := frozen_of_row V3 b 3 _ _ k1
    have K1 := Lib.hid k1
    have K2 := Lib.hid k2
    clear k1 k2
    go_wp2
    (try simp only [Exit.inBlock, Exit.then])
    refine bodyPost_ret (results_none rfl _ _ _) rfl ?_
    exact ⟨rfl, ⟨_, heap_setCell_same _ _ _ _ _ _ K1.out, fun s hs => by obtain rfl := Option.some.inj hs; exact own_set2 K2.out (by have := HLT.out; omega)⟩, set_grown k3⟩
  | some s =>
    replace q2 : W.cell? ⟨b, 2, none⟩ = some (.float .f32 s.2) := q2
    replace q3 : W.cell? ⟨b, 3, none⟩ = some (.bool true) := q3
    have hx := gt_casesG (num_finN hsn) (num_finN (hst s rfl))
    have hu1 : Hid (gtG sm s.2 = true → updM zs (some s) o = some (o, sm)) := Lib.hid (fun e => by rw [updM, updP, hsm, if_pos e])
    have hu2 : Hid (gtG sm s.2 = false → updM zs (some s) o = some s) := Lib.hid (fun e => by rw [updM, updP, hsm, if_neg (by rw [e]; decide)])
    have HN2 := Lib.hid hn
    clear hst hsm hsn
    rw [hn]
    rcases hx with ⟨h, e⟩ | ⟨h, e⟩ | ⟨h, e⟩
    · rw [hu1.out e]
      clear e hu1 hu2
      go_enter Try.func59, Try.ntmps59
      go_upto_region 2 with (fail)
      go_upto_region 3 with (at_builtin; refine wpList_append_own _ rfl _ _ 33 rfl W.heap.size 2 i0 (.int .i64 0) 1 8 Try.underlying33 hin hz0 hz1 hz2 rfl (by decide) _ _ _ rfl (World.ownsRow_made _ _ _ (Nat.le_refl _) (Nat.zero_le _) rfl) ⟨g, 0, none⟩ zs.length ocap (o.map encN) rfl (by rw [List.length_map, HN2.out]; omega) HNW.out (by intro u hu; obtain ⟨x, _, rfl⟩ := List.mem_map.1 hu; rfl) (by unfold maxLen; omega) (by omega) (by simp) ?_; intro v' w1 hown' hgrow hnil; obtain ⟨g1, cap1, rfl, hg1, hg1l, hown1, hw1⟩ := leaf_own hown' hgrow hnil rfl (Nat.le_refl _); have HOW := Lib.hid hown1; have hrow1 := (hw1.block b HLT.out).trans HROW.out; have p1 := cell_k (k := 1) hrow1 rfl; have p2 := frozen_of_row w1 b 1 _ _ hrow1; clear hown' hgrow hnil hown1)
      refine abs_world (fun V => V.heap[b]? = some (.cells #[.slice a zs.length cap, .slice (some ⟨g1, 0, none⟩) zs.length cap1, .float .f32 (mOf (some s)), .bool (Option.isSome (some s))] 53 (0, 0)) ∧ Own V base 2 (Value.int .i64) (.slice (some ⟨g1, 0, none⟩) zs.length cap1) (o.map fun (x : Nat) => (x : Int)) ∧ W.grownBy V (some b)) ⟨heap_setCell_same _ _ _ _ _ _ hrow1, own_set HOW.out (by have := HLT.out; omega) hbase, set_grown (grown_of_below hw1 _)⟩ ?_
      clear hrow1 p1 p2 HOW hw1
      rintro V2 ⟨k1, k2, k3⟩
      have p1 := cell_k (k := 2) k1 rfl
      have p2 := frozen_of_row V2 b 2 _ _ k1
      go_upto_region 4 with (fail)
      refine abs_world (fun V => V.heap[b]? = some (.cells #[.slice a zs.length cap, .slice (some ⟨g1, 0, none⟩) zs.length cap1, .float .f32 sm, .bool (Option.isSome (some s))] 53 (0, 0)) ∧ Own V base 2 (Value.int .i64) (.slice (some ⟨g1, 0, none⟩) zs.length cap1) (o.map fun (x : Nat) => (x : Int)) ∧ W.grownBy V (some b)) ⟨heap_setCell_same _ _ _ _ _ _ k1, own_set2 k2 (by have := HLT.out; omega), set_grown k3⟩ ?_
      clear k1 k2 k3 p1 p2
      rintro V3 ⟨k1, k2, k3⟩
      have p1 := cell_k (k := 3) k1 rfl
      have p2 := frozen_of_row V3 b 3 _ _ k1
      have K1 := Lib.hid k1
      have K2 := Lib.hid k2
      clear k1 k2
      go_wp2
      (try simp only [Exit.inBlock, Exit.then])
      refine bodyPost_ret (results_none rfl _ _ _) rfl ?_
      exact ⟨rfl, ⟨_, heap_setCell_same _ _ _ _ _ _ K1.out, fun s hs => by obtain rfl := Option.some.inj hs; exact own_set2 K2.out (by have := HLT.out; omega)⟩, set_grown k3⟩
    · rw [hu2.out e]
      clear e hu1 hu2
      go_enter Try.func59, Try.ntmps59
      go_wp2
      (try simp only [Exit.inBlock, Exit.then])
      refine bodyPost_ret (results_none rfl _ _ _) rfl ?_
      exact ⟨rfl, ⟨bv, HROW.out, HOWN.out⟩, below_grown6 (Below.refl _ _) b⟩
    · rw [hu2.out e]
      clear e hu1 hu2
      go_enter Try.func59, Try.ntmps59
      go_wp2
      (try simp only [Exit.inBlock, Exit.then])
      refine bodyPost_ret (results_none rfl _ _ _) rfl ?_
      exact ⟨rfl, ⟨bv, HROW.out, HOWN.out⟩, below_grown6 (Below.refl _ _) b⟩

end Go.Proofs.Ytjpnbcfdnolcjab
