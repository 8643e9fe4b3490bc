/-
  The order with the greatest sum: the model's state, its leaves.
-/
import Derived.Test.YtjpnbcfdnolcjabGoI
import Derived.Lib.OwnBridge
namespace Go.Proofs.Ytjpnbcfdnolcjab
open Go.ChangeShapes Go.WideShapes Go.ChangeAt Go.RowKit Go.Deep Go.Joins

attribute [local go_sem] run_store_f

def OrdAt (W : World) (v : Value) (o : List Nat) : Prop := ∃ g cap, v = .slice (some ⟨g, 0, none⟩) o.length cap ∧ ∀ (j x : Nat), o[j]? = some x → W.cell? ⟨g, j, none⟩ = some (Value.int .i64 (x : Int))

theorem ord_below {W W' : World} {v : Value} {o : List Nat} (h : OrdAt W v o) (hb : Below W.heap.size W W') : OrdAt W' v o := by
  obtain ⟨g, cap, h1, h2⟩ := h
  exact ⟨g, cap, h1, fun j x hx => cell_below hb (h2 j x hx)⟩

theorem ord_row {W : World} {base n : Nat} {v : Value} {o : List Nat} (h : W.ownsRow base 2 1 v n (o.map encN)) (hv : v ≠ .slice none 0 0) : OrdAt W v o := by
  obtain ⟨g, cap, rfl, _, _, _, _, hl, hH⟩ := Go.Lib.holds_of_ownsRow (enc := encN) (zs := o) h hv
  refine ⟨g, cap, by rw [hl], fun j x hx => ?_⟩
  have hj := (List.getElem?_eq_some_iff.1 hx)
  have := (hH j (by simpa using hj.1)).1
  rw [Nat.zero_add] at this
  rw [this]
  have e : o.toArray[j]! = x := by rw [getElem!_pos _ j (by simpa using hj.1)]; simpa using hj.2
  rw [e]; rfl

def mOf : Option (List Nat × Nat) → Nat
  | none => 0
  | some s => s.2

def SRow (W : World) (b base : Nat) (sv : Value) (st : Option (List Nat × Nat)) : Prop := ∃ bv, W.heap[b]? = some (.cells #[sv, bv, .float .f32 (mOf st), .bool st.isSome] 53 (0, 0)) ∧ ∀ s, st = some s → Own W base 2 (Value.int .i64) bv (s.1.map fun (x : Nat) => (x : Int))

theorem srow_keep {W W' : World} {b base : Nat} {sv : Value} {st : Option (List Nat × Nat)} (h : SRow W b base sv st) (hb : Below W.heap.size W W') : SRow W' b base sv st := by
  obtain ⟨bv, h1, h2⟩ := h
  refine ⟨bv, by rw [hb.block b (Array.getElem?_eq_some_iff.1 h1).1]; exact h1, fun s hs => own_below (h2 s hs) hb (Nat.le_refl _)⟩

theorem srow_lt {W : World} {b base : Nat} {sv : Value} {st : Option (List Nat × Nat)} (h : SRow W b base sv st) : b < W.heap.size := by
  obtain ⟨bv, h1, h2⟩ := h
  exact (Array.getElem?_eq_some_iff.1 h1).1

theorem grown_trans {W V V' : World} {r : Option Nat} (h : W.grownBy V r) (k : V.grownBy V' r) : W.grownBy V' r := ⟨k.os.trans h.os, k.tape.trans h.tape, k.output.trans h.output, Nat.le_trans h.size k.size, fun i hi hne => (k.block i (Nat.lt_of_lt_of_le hi h.size) hne).trans (h.block i hi hne)⟩

def FromRet (st : Option (List Nat × Nat)) (W : World) (b base : Nat) (sv : Value) (e : Ending) (W' : World) : Prop := e = .returned (.tuple #[]) ∧ SRow W' b base sv st ∧ W.grownBy W' (some b)

set_option maxRecDepth 100000 in
set_option maxHeartbeats 4000000 in
theorem has_any (v : Value) (o : List Nat) (k : Nat) (h48 : o.length ≤ 48) (W : World) (h : OrdAt W v o) : Calls Try.prog 78 #[v, .int .i64 k] W fun e w' => e = .returned (.bool (o.contains k)) ∧ W = w' := by
  obtain ⟨g, cap, rfl, hc⟩ := h
  have HC := Lib.hid hc
  clear hc
  generalize hn : o.length = n at *
  have HN := Lib.hid hn
  clear hn
  go_enter Try.func78, Try.ntmps78
  go_wp2
  go_loopw [5] (fun i wr => ∃ j : Nat, j ≤ n ∧ i = .int .i64 j ∧ W = wr ∧ ∀ i < j, o.getD i 0 ≠ k) (fun i _ => n - (intOf i).toNat)
  case atStart => exact ⟨0, Nat.zero_le _, rfl, rfl, fun i hi => absurd hi (Nat.not_lt_zero _)⟩
  case round =>
    obtain ⟨j, hj, rfl, rfl, hno⟩ := hrel
    have HNo := Lib.hid hno
    clear hno
    by_cases hlt : j < n
    · have hx := getD_get (l := o) (i := j) (by rw [HN.out]; exact hlt)
      have c1 := HC.out _ _ hx
      have hmem := List.mem_of_getElem? hx
      generalize hxe : o.getD j 0 = x at *
      have HXE := Lib.hid hxe
      have z1 : (j : Int) < (n : Int) := by omega
      have z2 : (0 : Int) ≤ (j : Int) := by omega
      have z3 : decide ((j : Int) < (n : Int)) = true := decide_eq_true z1
      clear hx hxe
      by_cases e : x = k
      · subst e
        have hh : Hid (o.contains x = true) := Lib.hid (by simpa using hmem)
        have z4 : ((x : Int) == (x : Int)) = true := by simp
        clear hmem
        go_wp2
        go_ret
        exact ⟨ret_bool5 hh.out.symm, rfl⟩
      · have z4 : ((x : Int) == (k : Int)) = false := by simp; omega
        have HE := Lib.hid e
        clear hmem
        go_wp2
        go_roundw
        case rel => exact ⟨j + 1, by omega, by go_num, by trivial, fun i hi => by
          by_cases c : i = j
          · subst c; rw [HXE.out]; exact HE.out
          · exact HNo.out i (by omega)⟩
        case measure => simp [intOf]; omega
    · obtain rfl : j = n := by omega
      have hh : Hid (o.contains k = false) := Lib.hid (by
        rw [Bool.eq_false_iff]
        intro hc
        have hm : k ∈ o := by simpa using hc
        obtain ⟨i, hi, e⟩ := List.mem_iff_getElem.1 hm
        exact HNo.out i (by rw [← HN.out]; exact hi) (by simp [List.getD, hi, e]))
      have z3 : decide ((j : Int) < (j : Int)) = false := decide_eq_false (by omega)
      go_wp2
      go_ret
      exact ⟨ret_bool5 hh.out.symm, rfl⟩

end Go.Proofs.Ytjpnbcfdnolcjab
