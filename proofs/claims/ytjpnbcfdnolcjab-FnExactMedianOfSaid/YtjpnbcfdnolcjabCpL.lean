/-
  A list's copy, and the copy turned round.
-/
import Derived.Test.YtjpnbcfdnolcjabSbL
import Derived.OwnWalk
import Derived.Laws.AppendOwn
import Derived.Maps.AppendAt
import Derived.Lib.OwnBridge
import Derived.Shelf.SlicesE.Reverse
import Derived.Shelf.SlGeneric
namespace Go.Proofs.Ytjpnbcfdnolcjab
open Go.ChangeShapes Go.WideShapes Go.ChangeAt Go.RowKit Go.Deep Go.Joins

attribute [local go_sem] run_store_f

theorem grown_of_below6 {w w' : World} (h : Below w.heap.size w w') (row : Option Nat) : w.grownBy w' row := ⟨h.os, h.tape, h.output, h.size, fun k hk _ => h.block k hk⟩

theorem row_base6 {W : World} {base k : Nat} {e : TypeId} {v : Value} {xs : List Value} (h : W.ownsRow base e 1 v k xs) : ∀ j, v.ownBlock = some j → base ≤ j := fun j e => (h.lt j e).1

theorem wpList_append_nil6 {P : Program} (w : World) {ops : Array Oper} {rest : List Oper} {o : Oper} {a : Act} {Q : Exit → Act → World → Prop} (hgd : o.guard = none) (s x : Operand) (t : TypeId)
    (ho : o.op = .call { callee := .builtin .append, args := #[s, x], argTypes := #[t, t] })
    (e : TypeId) (i : TypeInfo) (ht : P.underlying t = some (.slice e)) (hi : P.info? e = some i)
    (ad : Option Addr) (n c d : Nat) (hs : a.eval s = .slice ad n c) (hn : n ≤ c) (hx : a.eval x = .slice none 0 d)
    (h : wpList P ops Q rest (a.put o.dst (.slice ad n c)) w) : wpList P ops Q (o :: rest) a w := by
  have hrun : (Builtin.append_ #[t, t] o.type #[.slice ad n c, .slice none 0 d]).run P w = .ok (.slice ad n c) w := by
    cases ad <;> simp [Builtin.append_, run_underlying ht, Go.sizeOf, typeInfo, hi, Builtin.lenOf, Builtin.firstCells, hn, storeCells]
  refine wpList_plain hgd fun K hK => ?_
  simp only [Oper.wp]
  unfold execOp
  simp only [ho, resolve, invoke, builtin, Sem.run_bind, Sem.run_pure, Result.andThen_ok, List.map_toArray, List.map_cons, List.map_nil, hs, hx, hrun]
  first | exact hK _ _ h | (simp; exact hK _ _ h)

open Go.Shelf in
def layRev_ren : Go.Shelf.Ren := ⟨fun | 35 => 85 | n => n, fun | 0 => 0 | 3 => 3 | 4 => 4 | 22 => 22 | 23 => 23 | n => n, fun n => n⟩

open Go.Shelf in
theorem layRev : SlLaysE.n35 Try.prog layRev_ren :=
  {
    mixed := by kernel_rfl,
    f35 := ⟨Try.f85.name, by decide, Try.func85.trans (congrArg some (by kernel_rfl))⟩,
    t0 := Try.underlying0,
    a0 := Try.isAgg0,
    z0 := Try.sizeOf0,
    v0 := Try.zeroValue0,
    t3 := Try.underlying3,
    a3 := Try.isAgg3,
    z3 := Try.sizeOf3,
    v3 := Try.zeroValue3,
    t4 := Try.underlying4,
    a4 := Try.isAgg4,
    z4 := Try.sizeOf4,
    v4 := Try.zeroValue4,
    t22 := Try.underlying22,
    a22 := Try.isAgg22,
    z22 := Try.sizeOf22,
    v22 := Try.zeroValue22,
    a23 := Try.isAgg23,
    z23 := Try.sizeOf23 }

/-- A list of the call's own that is not nil. -/
def OwnN (zs : List Nat) (w : World) (e : Ending) (w' : World) : Prop :=
  ∃ g cap, e = .returned (.slice (some ⟨g, 0, none⟩) zs.length cap) ∧ w.heap.size ≤ g ∧ g < w'.heap.size ∧ zs.length ≤ cap ∧ cap ≤ maxLen ∧ w'.ownsRow w.heap.size 23 1 (.slice (some ⟨g, 0, none⟩) zs.length cap) zs.length (zs.map (Value.float .f32)) ∧ Go.Sort.Holds (Value.float .f32) w' g 0 zs.toArray ∧ Below w.heap.size w w'

set_option maxRecDepth 100000 in
set_option maxHeartbeats 4000000 in
theorem copied_any (sv : Value) (zs : List Nat) (hlen : zs.length ≤ 48) (w : World) (hz : FloatsAt w sv zs) : Calls Try.prog 81 #[sv] w (OwnN zs w) := by
  obtain ⟨i0, hin, hz0, hz1, hz2⟩ := info_parts info_f32
  have HZ := Lib.hid hz
  obtain ⟨a, cap, rfl, hl, hm, -⟩ := hz
  unfold maxLen at hm
  have hrow0 : (w.alloc (.cells #[] 23)).ownsRow w.heap.size 23 1 (.slice (some ⟨w.heap.size, 0, none⟩) 0 0) 0 [] := World.ownsRow_made _ _ _ (Nat.le_refl _) (Nat.zero_le _) rfl
  have hb0 : Below w.heap.size w (w.alloc (.cells #[] 23)) := (Below.refl _ _).alloc (Nat.le_refl _) _
  cases a with
  | none =>
    have h0 : zs = [] := by
      cases zs with
      | nil => rfl
      | cons z zs =>
        obtain ⟨g, o, e, _⟩ := float_at HZ.out (k := 0) (x := z) rfl
        cases e
    subst h0
    have HR := Lib.hid hrow0
    clear hrow0
    go_enter Try.func81, Try.ntmps81
    go_wp2_with (at_builtin; refine wpList_append_nil6 _ rfl _ _ 22 rfl 23 i0 Try.underlying22 hin (some ⟨w.heap.size, 0, none⟩) 0 0 cap rfl (Nat.le_refl _) rfl ?_)
    go_ret
    exact ⟨_, _, rfl, Nat.le_refl _, row_lt (heap_alloc_new _ _), Nat.le_refl _, by unfold maxLen; omega, HR.out, fun j hj => by simp at hj, hb0⟩
  | some ad =>
    have hnews : ∀ j u, (zs.map (Value.float .f32))[j]? = some u → (w.alloc (.cells #[] 23)).cell? (ad.add j) = some u := by
      intro j u hu
      rw [List.getElem?_map, Option.map_eq_some_iff] at hu
      obtain ⟨x, hx, rfl⟩ := hu
      obtain ⟨g, o, e, hc⟩ := float_at (floats_below HZ.out hb0) hx
      have e' := Option.some.inj e
      rw [e', addr_add]
      exact hc
    have HN := Lib.hid hnews
    clear hnews
    generalize hn : zs.length = n at *
    have HL := Lib.hid hn
    clear hn
    go_enter Try.func81, Try.ntmps81
    go_wp2_with (at_builtin; refine wpList_append_own _ rfl _ _ 22 rfl w.heap.size 23 i0 (.float .f32 0) 1 4 Try.underlying22 hin hz0 hz1 hz2 rfl (by decide) _ _ _ rfl hrow0 ad n cap (zs.map (Value.float .f32)) rfl (by rw [List.length_map, HL.out]; omega) HN.out (by intro u hu; obtain ⟨x, _, rfl⟩ := List.mem_map.1 hu; rfl) (by unfold maxLen; omega) (by omega) hb0.size ?_; intro v' w1 hown' hgrow hnil)
    have hb1 : Below w.heap.size w w1 := hb0.grown hgrow hb0.size (row_base6 hrow0)
    rw [Nat.zero_add, List.nil_append] at hown'
    have hne : v' ≠ .slice none 0 0 := fun h => by have := (hnil.1 h).1; cases this
    obtain ⟨g, cap', rfl, hbg, hgl, hnc, hcm, _, hH⟩ := Go.Lib.holds_of_ownsRow (enc := Value.float .f32) (zs := zs) hown' hne
    have HO := Lib.hid hown'
    have HH := Lib.hid hH
    clear hown' hH hgrow hrow0 hb0 hnil hne
    go_wp2
    go_ret
    have hl2 := HL.out
    subst hl2
    exact ⟨g, cap', rfl, hbg, hgl, hnc, hcm, HO.out, HH.out, hb1⟩

theorem floats_holds {W : World} {g n cap : Nat} {zs : List Nat} (h : Go.Sort.Holds (Value.float .f32) W g 0 zs.toArray) (hn : zs.length = n) (hc : n ≤ cap) (hm : cap ≤ maxLen) : FloatsAt W (.slice (some ⟨g, 0, none⟩) n cap) zs := by
  refine ⟨_, cap, by rw [hn], by omega, hm, fun i x hx => ⟨g, 0, rfl, ?_⟩⟩
  have hi := (List.getElem?_eq_some_iff.1 hx)
  have := (h i (by simpa using hi.1)).1
  rw [this]
  congr 2
  rw [← hi.2]
  simp [getElem!_pos, hi.1]

set_option maxRecDepth 100000 in
set_option maxHeartbeats 4000000 in
theorem addedBack_any (sv : Value) (zs : List Nat) (hq : ∀ z ∈ zs, PlnOk z) (hlen : zs.length ≤ 48) (w : World) (hz : FloatsAt w sv zs) :
    Calls Try.prog 73 #[sv] w fun e w' => e = .returned (.float .f32 (leftS zs.reverse)) ∧ Below w.heap.size w w' := by
  have HC := Lib.hid (copied_any sv zs hlen w hz)
  have HR := Lib.hid (fun (g cap : Nat) (W : World) (hH : Go.Sort.Holds (Value.float .f32) W g 0 zs.toArray) => show Calls Try.prog 85 #[.slice (some ⟨g, 0, none⟩) zs.length cap] W (fun e w' => e = .returned (.tuple #[]) ∧ ∃ n, w' = Go.Sort.putRow (Value.float .f32) (Go.Sort.ahead W n) g 0 zs.reverse.toArray) from AnyE.slices_Reverse layRev (Value.float .f32) (fun _ => rfl) g 0 cap zs W hH (by omega))
  have HA := Lib.hid (fun (v : Value) (W : World) (hv : FloatsAt W v zs.reverse) => added_any v zs.reverse (fun z hz => hq z (List.mem_reverse.1 hz)) (by rw [List.length_reverse]; exact hlen) W hv)
  generalize leftS zs.reverse = s at *
  clear hq hz
  go_enter Try.func73, Try.ntmps73
  go_wp2_with (first | (go_at_call 81; refine HC.out.mono ?_; rintro e w1 ⟨g, cap, rfl, hg, hgl, hnc, hcm, -, hH, hb⟩; have HH := Lib.hid hH; clear hH) | (go_at_call 85; refine (HR.out g cap _ HH.out).mono ?_; rintro e w2 ⟨rfl, n, hw⟩; have hb2 : Below w.heap.size w w2 := (by rw [hw]; exact Go.Lib.below_putRow hb hg); have HF : Hid (FloatsAt w2 (.slice (some ⟨g, 0, none⟩) zs.length cap) zs.reverse) := Lib.hid (floats_holds (by rw [hw]; exact Go.Sort.holds_putRow _ _ _ _ _ _ (Go.Sort.holds_ahead _ _ _ _ _ _ HH.out) (by simp)) (by simp) hnc hcm); clear hw HH) | (go_at_call 61; refine (HA.out _ _ HF.out).mono ?_; rintro e w3 ⟨rfl, rfl⟩))
  go_ret
  exact ⟨rfl, hb2⟩

set_option maxRecDepth 100000 in
set_option maxHeartbeats 4000000 in
theorem l06Right_any (sv : Value) (zs : List Nat) (hq : ∀ z ∈ zs, PlnOk z) (hlen : zs.length ≤ 48) (w : World) (hz : FloatsAt w sv zs) :
    Calls Try.prog 44 #[sv] w fun e w' => e = .returned (.float .f32 (leftS zs.reverse)) ∧ w = w' := by
  have HT := Lib.hid (fun k x => leftS_take (zs := zs.reverse) (k := k) (x := x) (fun z hz => hq z (List.mem_reverse.1 hz)) (by rw [List.length_reverse]; exact hlen))
  have HV := Lib.hid (fun k (hk : k < zs.length) => (List.getElem?_reverse (l := zs) hk))
  have HN2 : Hid (zs.reverse.length = zs.length) := Lib.hid (List.length_reverse ..)
  have HW := Lib.hid hz
  obtain ⟨a, cap, rfl, hl, hm, _⟩ := hz
  unfold maxLen at hm
  generalize hn : zs.length = n at *
  have HN := Lib.hid hn
  clear hn hq
  generalize hzr : zs.reverse = zr at *
  clear hzr
  go_enter Try.func44, Try.ntmps44
  go_wp2
  go_loopw [3, 4] (fun s i wr => ∃ k : Nat, k ≤ n ∧ i = .int .i64 ((n : Int) - 1 - (k : Int)) ∧ s = .float .f32 (leftS (zr.take k)) ∧ wr = w) (fun _ i _ => (intOf i + 1).toNat)
  case atStart => exact ⟨0, Nat.zero_le _, by simp, rfl, rfl⟩
  case round =>
    obtain ⟨k, hk, rfl, rfl, rfl⟩ := hrel
    by_cases hlt : k < n
    · obtain ⟨j, hj⟩ : ∃ j : Nat, j = n - 1 - k := ⟨_, rfl⟩
      have e0 : (n : Int) - 1 - (k : Int) = (j : Int) := by omega
      rw [e0]
      obtain ⟨x, hx⟩ : ∃ x, zs[j]? = some x := ⟨_, List.getElem?_eq_getElem (by rw [HN.out]; omega)⟩
      obtain ⟨g, o, rfl, hc⟩ := float_at HW.out hx
      have hxr : zr[k]? = some x := by rw [HV.out k hlt, ← hj]; exact hx
      have ra := fun T w => run_float_arith (P := Try.prog) w .add T .f32 _ _ _ (HT.out k x hxr)
      have z1 : (j : Int) < (n : Int) := by omega
      have z2 : (0 : Int) ≤ (j : Int) := by omega
      have z3 : decide ((j : Int) < (n : Int)) = true := decide_eq_true z1
      have HE := Lib.hid e0
      clear hx hxr e0 hj
      go_wp2
      go_roundw
      case rel => exact ⟨k + 1, by omega, by rw [show (n : Int) - 1 - ((k + 1 : Nat) : Int) = (j : Int) - 1 by have := HE.out; omega], by trivial, by trivial⟩
      case measure => simp [intOf] <;> omega
    · obtain rfl : k = n := by omega
      have e0 : (k : Int) - 1 - (k : Int) = -1 := by omega
      rw [e0]
      clear e0
      have et : zr.take k = zr := List.take_of_length_le (by rw [HN2.out]; exact Nat.le_refl _)
      rw [et]
      clear et
      go_wp2
      go_ret
      exact ⟨rfl, rfl⟩

end Go.Proofs.Ytjpnbcfdnolcjab
