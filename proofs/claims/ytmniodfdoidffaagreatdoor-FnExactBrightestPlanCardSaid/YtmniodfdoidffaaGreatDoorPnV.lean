/-
  Whether a plan is valid: the model.
-/
import Derived.Test.YtmniodfdoidffaaGreatDoorPnA
import Derived.Test.YtmniodfdoidffaaGreatDoorOk
import Derived.Test.YtmniodfdoidffaaGreatDoorBok
import Derived.Test.YtmniodfdoidffaaGreatDoorBlk
namespace Go.Proofs.YtmniodfdoidffaaGreatDoor
open Go.ChangeShapes Go.WideShapes Go.ChangeAt Go.RowKit Go.Deep Go.Joins

def okP (ps : List Int) : Bool := ps.all (fun x => inI (-64) 64 x)

theorem okP_get {ps : List Int} (h : okP ps = true) {x : Int} (hx : x ∈ ps) : -64 ≤ x ∧ x ≤ 64 := inI_get (List.all_eq_true.1 h x hx)

theorem okP_iff (ps : List Int) (hp : ps.length = 24) : okP ps = true ↔ ∀ k, k < 24 → inI (-64) 64 (ps[k]?.getD 0) = true := by
  unfold okP
  rw [List.all_eq_true]
  constructor
  · intro h k hk
    have e : ps[k]? = some (ps[k]'(by omega)) := List.getElem?_eq_getElem (by omega)
    rw [e]; exact h _ (List.getElem_mem _)
  · intro h x hx
    obtain ⟨k, hk, rfl⟩ := List.mem_iff_getElem.1 hx
    have := h k (by omega)
    rw [List.getElem?_eq_getElem hk] at this
    exact this

theorem okP_false {ps : List Int} (hp : ps.length = 24) (k : Nat) (hk : k < 24) (h : inI (-64) 64 (ps[k]?.getD 0) = false) : okP ps = false := by
  rw [Bool.eq_false_iff]
  intro ha
  have := (okP_iff ps hp).1 ha k hk
  rw [h] at this; cases this

set_option maxRecDepth 100000 in
set_option maxHeartbeats 1000000 in
theorem l07Plan_any (b : Nat) (ps : List Int) (hp : ps.length = 24) (pb : ∀ x ∈ ps, -32768 ≤ x ∧ x ≤ 32767) (t : TypeId) (fr : Nat × Nat) (w : World) (hg : w.heap[b]? = some (.cells (i16s ps) t fr)) :
    Calls Tryz.prog 34 #[.pointer (some ⟨b, 0, none⟩)] w fun e w' => e = .returned (.bool (okP ps)) ∧ w = w' := by
  have Hp := Lib.hid hp
  have Hg := Lib.hid hg
  have Rb := Lib.hid pb
  clear hp hg pb
  go_enter Tryz.func34, Tryz.ntmps34
  go_wp2
  go_loop [3] (fun i => ∃ k : Nat, k ≤ 24 ∧ i = .int .i64 k ∧ Hid (∀ j, j < k → inI (-64) 64 (ps[j]?.getD 0) = true)) (fun i => 24 - (intOf i).toNat)
  case atStart => exact ⟨0, Nat.zero_le _, rfl, Lib.hid (fun j h => absurd h (by omega))⟩
  case round =>
    obtain ⟨k, hk, rfl, hj⟩ := hrel
    by_cases hlt : k < 24
    · have c0 := cell_of_i16s Hg.out k (by rw [Hp.out]; exact hlt)
      have hxb := rb_get Rb.out k
      generalize hA : ps[k]?.getD 0 = x at *
      have HA := Lib.hid hA
      clear hA
      obtain ⟨hx0, hx1⟩ := hxb
      by_cases h1 : inI (-64) 64 x = true
      · go_wp2_with (go_at_call 49; refine (l02Tilt_any _ _).mono ?_; rintro e w' ⟨rfl, rfl⟩)
        go_round
        case rel =>
          refine ⟨k + 1, by omega, by go_num, Lib.hid fun j hj' => ?_⟩
          by_cases e : j = k
          · subst e; rw [HA.out]; exact h1
          · exact hj.out j (by omega)
        case measure => simp [intOf]; omega
      · have h1' : inI (-64) 64 x = false := by simpa using h1
        have hno := Lib.hid (okP_false Hp.out k hlt (by rw [HA.out]; exact h1'))
        clear h1
        go_wp2_with (go_at_call 49; refine (l02Tilt_any _ _).mono ?_; rintro e w' ⟨rfl, rfl⟩)
        go_ret
        rw [hno.out]; exact ⟨rfl, rfl⟩
    · obtain rfl : k = 24 := by omega
      have hyes := Lib.hid ((okP_iff ps Hp.out).2 hj.out)
      go_wp2
      go_ret
      rw [hyes.out]; exact ⟨rfl, rfl⟩

end Go.Proofs.YtmniodfdoidffaaGreatDoor
