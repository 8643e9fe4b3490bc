/-
  A copy of a list of floats.

-/
import Derived.Test.YtmbgmpeiicjlaaaFlA
import Derived.Test.YtmbgmpeiicjlaaaList
import Derived.Test.YtmbgmpeiicjlaaaBox
import Derived.IntWalk
import Derived.Deep.Cut
import Derived.Deep.DeepCutAuto

namespace Go.Proofs.Ytmbgmpeiicjlaaa

open Go.ChangeShapes Go.WideShapes Go.ChangeAt Go.RowKit Go.Deep Go.Joins

attribute [local go_sem] run_store_f

theorem own_of_rowV {α : Type} {W : World} {base : Nat} {e : TypeId} {mk : α → Value} {v : Value} {xs : List α} (h : W.ownsRow base e 1 v xs.length (xs.map mk)) (_ : xs.length ≤ maxLen) : Own W base e mk v xs := by
  rcases h.2 with ⟨rfl, hz⟩ | ⟨g, cap, cur, rfl, hbg, hg, hnc, hcm, hsz, htk⟩
  · exact ⟨none, 0, by rw [hz], Nat.zero_le _, by omega, .inl ⟨rfl, List.eq_nil_of_length_eq_zero hz⟩⟩
  · refine ⟨_, cap, rfl, hcm, hnc, .inr ⟨g, cur, rfl, hbg, hg, fun k hk => ?_⟩⟩
    have h1 : (cur.toList.take (xs.length * 1))[k]? = cur[k]? := by
      rw [List.getElem?_take_of_lt (by omega), Array.getElem?_toList]
    rw [← h1, htk, List.getElem?_map]

set_option maxRecDepth 100000 in
set_option maxHeartbeats 4000000 in
theorem clone_fls (g o n cap : Nat) (zs : List Nat) (hz : zs.length = n) (hn : n ≤ 1000) (w : World) (hc : ∀ (j : Nat) (x : Nat), zs[j]? = some x → w.cell? ⟨g, o + j, none⟩ = some (.float .f32 x)) :
    Calls Try.prog 11 #[.slice (some ⟨g, o, none⟩) n cap] w fun e w' => (∃ v, e = .returned v ∧ Own w' w.heap.size 23 (Value.float .f32) v zs) ∧ Below w.heap.size w w' := by
  obtain ⟨i0, hin, hz0, hz1, hz2⟩ := info_parts info_f32
  have hb0 : Below w.heap.size w (w.alloc (.cells #[] 23)) := (Below.refl _ _).alloc (Nat.le_refl _) _
  have HNW : Hid (∀ j u, (zs.map (Value.float .f32))[j]? = some u → (w.alloc (.cells #[] 23)).cell? ((⟨g, o, none⟩ : Addr).add j) = some u) := Lib.hid (fun j u hu => by
    rw [List.getElem?_map, Option.map_eq_some_iff] at hu
    obtain ⟨x, hx, rfl⟩ := hu
    rw [addr_add]
    exact cell_belowB hb0 (hc j x hx))
  have HN2 := Lib.hid hz
  have q31 : ∀ (w : World) (a : Option Addr) (n c n' c' : Nat), (binOp .eql 22 (.slice a n c) (.slice none n' c')).run Try.prog w = .ok (.bool a.isNone) w := fun w a n c n' c' => Lib.run_eql_slice_nil w _ _ a n c n' c' Try.underlying22
  clear hb0 hc hz
  go_enter Try.func11, Try.ntmps11
  go_upto_region 3 with (fail)
  go_wp2_with (at_builtin; go_loud (refine wpList_append_own _ rfl _ _ 22 rfl w.heap.size 23 i0 (.float .f32 0) 1 4 Try.underlying22 hin hz0 hz1 hz2 rfl (by decide) _ _ _ rfl (World.ownsRow_made _ _ _ (Nat.le_refl _) (Nat.zero_le _) rfl) ⟨g, o, none⟩ n cap (zs.map (Value.float .f32)) rfl (by rw [List.length_map, HN2.out, Nat.mul_one]) HNW.out (by intro u hu; obtain ⟨x, _, rfl⟩ := List.mem_map.1 hu; rfl) (by unfold maxLen; omega) (by omega) (by simp) ?_); intro v' w1 hown' hgrow hnil)
  have hown : Own w1 w.heap.size 23 (Value.float .f32) v' zs := own_of_rowV (xs := zs) (mk := Value.float .f32) (by rw [List.nil_append, Nat.zero_add] at hown'; rw [HN2.out]; exact hown') (by rw [HN2.out]; unfold maxLen; omega)
  have hbw : Below w.heap.size w w1 := ((Below.refl _ _).alloc (Nat.le_refl _) _).grown hgrow (by simp) (fun k hk => by
    have e : some w.heap.size = some k := hk
    have := Option.some.inj e
    omega)
  have HO := Lib.hid (And.intro hown hbw)
  clear hown hbw hown' hgrow hnil
  go_wp2
  go_ret
  exact ⟨⟨_, rfl, HO.out.1⟩, HO.out.2⟩

end Go.Proofs.Ytmbgmpeiicjlaaa
