/-
  Lists of numbers of single precision: what writing marks into them does, and what holding them says.
-/
import Derived.Test.YtjpnbcfdnolcjabListF
import Derived.Test.YtjpnbcfdnolcjabSgn
namespace Go.Proofs.Ytjpnbcfdnolcjab
open Go.RowKit

theorem run_store_fl (P : Program) (w : World) (a : Addr) (k : FloatKind) (b : Nat) (m : Mode) : (store a (.float k b) m).run P w = stored P w a (.float k b) m := run_store P w a _ m rfl
attribute [local go_sem] run_store_fl
theorem mark_num_nat : ∀ n : Nat, n < 2001 → floatOfInt .f32 (n : Int) < 2139095040 := by decide +kernel
theorem mark_order (j : Int) (h0 : 0 ≤ j) (h1 : j ≤ 2000) : FloatKind.f32.format.order (floatOfInt .f32 j) (floatOfInt .f32 j) = some .eq := by
  obtain ⟨n, rfl⟩ := Int.eq_ofNat_of_zero_le h0
  have h := mark_num_nat n (by omega)
  rw [order_num (.inl h) (.inl h)]
  simp

def marksF (k : Int) (n : Nat) : List Nat := (List.range n).map (fun i : Nat => floatOfInt .f32 (k + (i : Int)))
theorem marksF_len (k : Int) (n : Nat) : (marksF k n).length = n := by simp [marksF]
theorem marksF_get (k : Int) (n i : Nat) (h : i < n) : (marksF k n)[i]? = some (floatOfInt .f32 (k + (i : Int))) := by simp [marksF, h]

set_option maxRecDepth 100000 in
set_option maxHeartbeats 1000000 in
theorem heldF_same (m : Int) (n : Nat) (v : Value) (b : Nat) (w : World) (hm0 : 0 ≤ m) (hm1 : m ≤ 1000) (hn : n ≤ 1000) (h1 : Own w b 23 (Value.float .f32) v (marksF m n)) :
    Calls Try.prog 38 #[v, .int .i64 m] w fun e w' => e = .returned (.int .i64 (m + n)) ∧ Below w.heap.size w w' := by
  obtain ⟨a1, c1, rfl, hm⟩ := own_len h1
  have HO1 : Hid (∀ wr, Below w.heap.size w wr → Own wr b 23 (Value.float .f32) (.slice a1 (marksF m n).length c1) (marksF m n)) := fun wr hb => own_below h1 hb (Nat.le_refl _)
  rw [marksF_len] at HO1 hm ⊢
  clear h1
  unfold maxLen at hm
  go_enter Try.func38, Try.ntmps38
  go_wp2
  go_loopw [1, 5] (fun q i wr => ∃ k : Nat, k ≤ n ∧ i = .int .i64 k ∧ q = .int .i64 (m + k) ∧ Below w.heap.size w wr) (fun _ i _ => n - (intOf i).toNat)
  case atStart => exact ⟨0, Nat.zero_le _, rfl, by simp, Below.refl _ _⟩
  case round =>
    obtain ⟨k, hk, rfl, rfl, hb⟩ := hrel
    by_cases hlt : k < n
    · obtain ⟨g1, cur1, rfl, _, hg1, hc1, hm1, x, hx, hk1⟩ := own_get (HO1.out wr hb) k hlt
      have ho := mark_order (m + (k : Int)) (by omega) (by omega)
      obtain rfl : floatOfInt .f32 (m + (k : Int)) = x := by rw [marksF_get m n k hlt] at hx; exact Option.some.inj hx
      have q1 := cell_k hg1 hk1
      unfold maxLen at hm1
      clear hg1 hk1 hx
      have z0 : (0 : Int) ≤ (k : Int) := by omega
      have z1 : (k : Int) < (n : Int) := by omega
      go_wp2
      go_roundw
      case rel => exact ⟨k + 1, by omega, by go_num, by go_num, hb⟩
      case measure => simp [intOf]; omega
    · obtain rfl : k = n := by omega
      go_wp2
      go_ret
      exact ⟨rfl, hb⟩

/-- What writing into a list does: it holds other elements, and all else is as it was. -/
def MarkedF (w : World) (E : TypeId) (b : Nat) (v : Value) (m : Int) (n : Nat) (e : Ending) (w' : World) : Prop :=
  e = .returned (.int .i64 (m + n)) ∧ Own w' b E (Value.float .f32) v (marksF m n) ∧ Below b w w' ∧ ∀ k o, w.heap[k]? = some o → (∀ g n c, v = .slice (some ⟨g, 0, none⟩) n c → k ≠ g) → w'.heap[k]? = some o

set_option maxRecDepth 100000 in
set_option maxHeartbeats 1000000 in
theorem markF_any (m : Int) (xs : List Nat) (v : Value) (b : Nat) (w : World) (hm0 : 0 ≤ m) (hm1 : m ≤ 4000000) (hn : xs.length ≤ 2000000) (h1 : Own w b 23 (Value.float .f32) v xs) :
    Calls Try.prog 33 #[v, .int .i64 m] w fun e w' => MarkedF w 23 b v m xs.length e w' := by
  by_cases hz : xs.length = 0
  · obtain ⟨a1, c1, rfl, hm⟩ := own_len h1
    have HR : Hid (∀ wr, Below w.heap.size w wr → Own wr b 23 (Value.float .f32) (.slice a1 xs.length c1) (marksF m xs.length)) := by
      intro wr hb
      obtain ⟨a, cap, e1, e2, e3, e4⟩ := own_below h1 hb (Nat.le_refl _)
      refine ⟨a, cap, by rw [marksF_len]; exact e1, e2, by rw [marksF_len]; omega, ?_⟩
      rcases e4 with ⟨ea, _⟩ | ⟨g, cur, ea, eb, ec, _⟩
      · exact .inl ⟨ea, List.eq_nil_of_length_eq_zero (by rw [marksF_len]; exact hz)⟩
      · exact .inr ⟨g, cur, ea, eb, ec, fun k hk => by rw [marksF_len] at hk; omega⟩
    clear h1
    generalize xs.length = n at *
    subst hz
    go_enter Try.func33, Try.ntmps33
    go_wp2
    go_loopw [1, 5] (fun q i wr => q = .int .i64 m ∧ i = .int .i64 0 ∧ wr = w) (fun _ _ _ => 0)
    case atStart => exact ⟨rfl, rfl, rfl⟩
    case round =>
      obtain ⟨rfl, rfl, rfl⟩ := hrel
      go_wp2
      go_ret
      exact ⟨by simp, HR.out _ (Below.refl _ _), Below.refl _ _, fun k o hk _ => hk⟩
  · obtain ⟨a1, c1, rfl, hm⟩ := own_len h1
    obtain ⟨g, cur0, rfl, hbg, hg0, hc1, hmc, _, _, _⟩ := own_get h1 0 (by omega)
    have hsz : xs.length ≤ cur0.size := by
      obtain ⟨g', cur', e', _, hg0', _, _, x, _, hl⟩ := own_get h1 (xs.length - 1) (by omega)
      injection e' with e'
      injection e' with e'
      subst e'
      rw [hg0] at hg0'
      injection hg0' with e''
      injection e'' with e''
      subst e''
      have := (Array.getElem?_eq_some_iff.1 hl).1
      omega
    have HG := Lib.hid hg0
    clear h1 hg0
    generalize hln : xs.length = n at *
    unfold maxLen at hmc
    go_enter Try.func33, Try.ntmps33
    go_wp2
    go_loopw [1, 5] (fun q i wr => ∃ k : Nat, k ≤ n ∧ i = .int .i64 k ∧ q = .int .i64 (m + k) ∧ Below b w wr ∧ (∀ j o, w.heap[j]? = some o → j ≠ g → wr.heap[j]? = some o) ∧ ∃ cur : Array Value, wr.heap[g]? = some (.cells cur 23 (0, 0)) ∧ n ≤ cur.size ∧ ∀ j, j < k → cur[j]? = some (.float .f32 (floatOfInt .f32 (m + j)))) (fun _ i _ => n - (intOf i).toNat)
    case atStart => exact ⟨0, Nat.zero_le _, rfl, by simp, Below.refl _ _, fun j o h _ => h, cur0, HG.out, hsz, fun j h => by omega⟩
    case round =>
      clear HG
      obtain ⟨k, hk, rfl, rfl, hb, hot, cur, hg, hs, hp⟩ := hrel
      have Hot := Lib.hid hot
      have Hp := Lib.hid hp
      have HG := Lib.hid hg
      by_cases hlt : k < n
      · have q1 : wr.cell? ⟨g, k, none⟩ = some (cur[k]'(by omega)) := cell_k hg (Array.getElem?_eq_getElem (by omega))
        have q2 := frozen_of_row wr g k _ _ hg
        have z0 : (0 : Int) ≤ (k : Int) := by omega
        have z1 : (k : Int) < (n : Int) := by omega
        clear hot hp hg
        go_wp2
        go_roundw
        case rel =>
          refine ⟨k + 1, by omega, by go_num, by go_num, hb.setCell (p := ⟨g, k, none⟩) hbg _, ?_, cur.setIfInBounds k (.float .f32 (floatOfInt .f32 (m + k))), ?_, by simpa using hs, ?_⟩
          · intro j o h hne
            rw [heap_setCell_other _ _ _ _ (by simpa using hne)]
            exact Hot.out j o h hne
          · rw [heap_setCell_same _ _ _ _ _ _ HG.out]
          · intro j hj
            rw [Array.getElem?_setIfInBounds]
            by_cases e : k = j
            · subst e; rw [if_pos rfl, if_pos (by omega)]
            · rw [if_neg e]; exact Hp.out j (by omega)
        case measure => simp [intOf]; omega
      · obtain rfl : k = n := by omega
        have HR : Hid (Own wr b 23 (Value.float .f32) (.slice (some ⟨g, 0, none⟩) k c1) (marksF m k)) := by
          refine ⟨_, c1, by rw [marksF_len], by unfold maxLen; omega, by rw [marksF_len]; exact hc1, .inr ⟨g, cur, rfl, hbg, hg, fun j hj => ?_⟩⟩
          rw [marksF_len] at hj
          rw [hp j hj, marksF_get m k j hj]; rfl
        clear hot hp hg
        go_wp2
        go_ret
        exact ⟨rfl, HR.out, hb, fun j o h hne => Hot.out j o h (hne g _ _ rfl)⟩

end Go.Proofs.Ytjpnbcfdnolcjab
