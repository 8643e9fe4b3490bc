/-
  The light of an hour of a day with gusts; sums of light behind an awning, the model's.
-/
import Derived.Test.YtnienahjfocalaaDoorSumD
import Derived.Test.YtnienahjfocalaaDoorShC
namespace Go.Proofs.YtnienahjfocalaaDoor
open Go.ChangeShapes Go.WideShapes Go.ChangeAt Go.RowKit Go.Deep Go.Joins

/-- Is the awning out in this hour? -/
def bitB (out : Int) (k : Nat) : Bool := bits .and .u32 (out / 2 ^ k) 1 == 1
def gusB (o dr gp tl : Nat) (hs ts : List Int) (fc out : Int) (k : Nat) : Nat := if bitB out k = true then behOf o dr gp tl hs ts (k : Int) fc else fallOf hs ts (k : Int) fc
theorem bit_all : ∀ k : Nat, k < 24 → bitB 16777215 k = true := by decide +kernel
theorem gus_le {o dr gp tl : Nat} (aw : AwOk o dr gp tl) {hs ts : List Int} {fc : Int} (out : Int) {k : Nat} (h : HrOk hs ts (k : Int) fc) : gusB o dr gp tl hs ts fc out k ≤ 1065353216 := by
  unfold gusB
  split
  · exact beh_le aw h
  · exact fall_le h
theorem pos_le {x : Nat} (h : x ≤ 1065353216) : pos32 x = true := pos_of_lt (by omega)

set_option maxRecDepth 100000 in
set_option maxHeartbeats 1000000 in
theorem gusty1_true {o dr gp tl : Nat} (aw : AwOk o dr gp tl) (hs ts : List Int) (hh : hs.length = 24) (ht : ts.length = 24) (fc out : Int) (u : 0 ≤ out ∧ out ≤ 4294967295) (k : Nat) (hk : k < 24) (q : HrOk hs ts (k : Int) fc) (hbt : bitB out k = true) (b1 b2 : Nat) (w : World) (h1 : w.heap[b1]? = some (.cells (shC hs ts fc o dr gp tl) 113 (0, 0))) (h2 : w.heap[b2]? = some (.cells #[.int .u32 out] 42 (0, 0))) :
    Calls Tryd.prog 76 #[.int .i64 (k : Int), .pointer (some ⟨b1, 0, none⟩), .pointer (some ⟨b2, 0, none⟩)] w fun e w' => e = .returned (.float .f32 (behOf o dr gp tl hs ts (k : Int) fc)) ∧ Below w.heap.size w w' := by
  obtain ⟨u0, u1⟩ := u
  have HF := Lib.hid (fun w => fall_any hs ts hh ht fc (k : Int) q w)
  have HB := Lib.hid (fun w => behind_any aw hs ts hh ht fc (k : Int) q w)
  have Hh := Lib.hid hh
  have Ht := Lib.hid ht
  clear hh ht
  have H1 := Lib.hid h1
  have c : w.cell? ⟨b2, 0, none⟩ = some (.int .u32 out) := by rw [cell_of_row w _ _ _ _ _ h2]; rfl
  clear h1 h2 q aw
  unfold bitB at hbt
  go_enter Tryd.func76, Tryd.ntmps76
  go_wp2_with (first | (refine wpList_load_partG 111 _ rfl b1 0 49 rfl rfl 113 (shC hs ts fc o dr gp tl) (0, 0) _ H1.out Tryd.underlying111 rfl info_fs (sh_fits49 _ _ _ _ _ _ _ Hh.out Ht.out) _ (sh_fs _ _ _ _ _ _ _ Hh.out Ht.out) ?_) | (refine wpList_load_partG 113 _ rfl b1 0 53 rfl rfl 113 (shC hs ts fc o dr gp tl) (0, 0) _ H1.out Tryd.underlying113 rfl info_sh (sh_fits _ _ _ _ _ _ _ Hh.out Ht.out) _ (sh_all _ _ _ _ _ _ _ Hh.out Ht.out) ?_) | (go_at_call 73; refine (HB.out _).mono ?_; rintro e W1 ⟨rfl, hb⟩))
  go_ret
  exact ⟨rfl, hb⟩

set_option maxRecDepth 100000 in
set_option maxHeartbeats 1000000 in
theorem gusty1_false {o dr gp tl : Nat} (aw : AwOk o dr gp tl) (hs ts : List Int) (hh : hs.length = 24) (ht : ts.length = 24) (fc out : Int) (u : 0 ≤ out ∧ out ≤ 4294967295) (k : Nat) (hk : k < 24) (q : HrOk hs ts (k : Int) fc) (hbt : bitB out k = false) (b1 b2 : Nat) (w : World) (h1 : w.heap[b1]? = some (.cells (shC hs ts fc o dr gp tl) 113 (0, 0))) (h2 : w.heap[b2]? = some (.cells #[.int .u32 out] 42 (0, 0))) :
    Calls Tryd.prog 76 #[.int .i64 (k : Int), .pointer (some ⟨b1, 0, none⟩), .pointer (some ⟨b2, 0, none⟩)] w fun e w' => e = .returned (.float .f32 (fallOf hs ts (k : Int) fc)) ∧ Below w.heap.size w w' := by
  obtain ⟨u0, u1⟩ := u
  have HF := Lib.hid (fun w => fall_any hs ts hh ht fc (k : Int) q w)
  have HB := Lib.hid (fun w => behind_any aw hs ts hh ht fc (k : Int) q w)
  have Hh := Lib.hid hh
  have Ht := Lib.hid ht
  clear hh ht
  have H1 := Lib.hid h1
  have c : w.cell? ⟨b2, 0, none⟩ = some (.int .u32 out) := by rw [cell_of_row w _ _ _ _ _ h2]; rfl
  clear h1 h2 q aw
  unfold bitB at hbt
  go_enter Tryd.func76, Tryd.ntmps76
  go_wp2_with (first | (refine wpList_load_partG 111 _ rfl b1 0 49 rfl rfl 113 (shC hs ts fc o dr gp tl) (0, 0) _ H1.out Tryd.underlying111 rfl info_fs (sh_fits49 _ _ _ _ _ _ _ Hh.out Ht.out) _ (sh_fs _ _ _ _ _ _ _ Hh.out Ht.out) ?_) | (refine wpList_load_partG 113 _ rfl b1 0 53 rfl rfl 113 (shC hs ts fc o dr gp tl) (0, 0) _ H1.out Tryd.underlying113 rfl info_sh (sh_fits _ _ _ _ _ _ _ Hh.out Ht.out) _ (sh_all _ _ _ _ _ _ _ Hh.out Ht.out) ?_) | (go_at_call 77; refine (HF.out _).mono ?_; rintro e W1 ⟨rfl, hb⟩))
  go_ret
  exact ⟨rfl, hb⟩

theorem gusty1_any {o dr gp tl : Nat} (aw : AwOk o dr gp tl) (hs ts : List Int) (hh : hs.length = 24) (ht : ts.length = 24) (fc out : Int) (u : 0 ≤ out ∧ out ≤ 4294967295) (k : Nat) (hk : k < 24) (q : HrOk hs ts (k : Int) fc) (b1 b2 : Nat) (w : World) (h1 : w.heap[b1]? = some (.cells (shC hs ts fc o dr gp tl) 113 (0, 0))) (h2 : w.heap[b2]? = some (.cells #[.int .u32 out] 42 (0, 0))) :
    Calls Tryd.prog 76 #[.int .i64 (k : Int), .pointer (some ⟨b1, 0, none⟩), .pointer (some ⟨b2, 0, none⟩)] w fun e w' => e = .returned (.float .f32 (gusB o dr gp tl hs ts fc out k)) ∧ Below w.heap.size w w' := by
  cases hb : bitB out k with
  | true => rw [show gusB o dr gp tl hs ts fc out k = behOf o dr gp tl hs ts (k : Int) fc from if_pos hb]; exact gusty1_true aw hs ts hh ht fc out u k hk q hb b1 b2 w h1 h2
  | false => rw [show gusB o dr gp tl hs ts fc out k = fallOf hs ts (k : Int) fc from if_neg (by rw [hb]; decide)]; exact gusty1_false aw hs ts hh ht fc out u k hk q hb b1 b2 w h1 h2

set_option maxRecDepth 100000 in
set_option maxHeartbeats 1000000 in
theorem l04Gusty_any {o dr gp tl : Nat} (aw : AwOk o dr gp tl) (hs ts : List Int) (hh : hs.length = 24) (ht : ts.length = 24) (fc out : Int) (u : 0 ≤ out ∧ out ≤ 4294967295) (q : ∀ k : Nat, k < 24 → HrOk hs ts (k : Int) fc) (g1 g2 : Nat) (T1 T2 : TypeId) (f1 f2 : Nat × Nat) (w : World) (q1 : w.heap[g1]? = some (.cells (awC o dr gp tl) T1 f1)) (q2 : w.heap[g2]? = some (.cells (sunC hs ts) T2 f2)) :
    Calls Tryd.prog 75 #[.pointer (some ⟨g1, 0, none⟩), .pointer (some ⟨g2, 0, none⟩), .int .i64 fc, .int .u32 out] w fun e w' => e = .returned (.float .f32 (sumTo (gusB o dr gp tl hs ts fc out) 24)) ∧ Below w.heap.size w w' := by
  obtain ⟨u0, u1⟩ := u
  have HB := Lib.hid (fun (k : Nat) (hk : k < 24) w' (h : Below w.heap.size w w') => l04Behind_any aw hs ts hh ht fc (k : Int) (q k hk) g1 g2 T1 T2 f1 f2 w' (below_row h q1) (below_row h q2))
  have HF := Lib.hid (fun (k : Nat) (hk : k < 24) w' (h : Below w.heap.size w w') => l01Fall_any g2 hs ts hh ht (k : Int) fc (q k hk).h0 (q k hk).h1 (q k hk).f0 (q k hk).f1 (q k hk).x1 (q k hk).y0 (q k hk).y1 T2 f2 w' (below_row h q2))
  have HPOS : Hid (∀ k : Nat, k < 24 → pos32 (gusB o dr gp tl hs ts fc out k) = true) := fun k hk => pos_le (gus_le aw out (q k hk))
  clear aw q q1 q2 hh ht
  go_enter Tryd.func75, Tryd.ntmps75
  go_wp2
  go_loopw [9, 10] (fun s i wr => ∃ k : Nat, k ≤ 24 ∧ i = .int .i64 k ∧ s = .float .f32 (sumTo (gusB o dr gp tl hs ts fc out) k) ∧ Below w.heap.size w wr) (fun _ i _ => 24 - (intOf i).toNat)
  case atStart => exact ⟨0, Nat.zero_le _, rfl, rfl, Below.refl _ _⟩
  case round =>
    obtain ⟨k, hk, rfl, rfl, hb⟩ := hrel
    by_cases hlt : k < 24
    · have hp : pos32 (sumTo (gusB o dr gp tl hs ts fc out) k) = true := sumTo_pos _ 24 (fun j hj => HPOS.out j hj) k hk
      have hgp := HPOS.out k hlt
      have hs1 := sumTo_succ (gusB o dr gp tl hs ts fc out) k
      cases hbt : bitB out k
      · have hgk : gusB o dr gp tl hs ts fc out k = fallOf hs ts (k : Int) fc := if_neg (by rw [hbt]; decide)
        rw [hgk] at hs1 hgp
        have HS1 := Lib.hid hs1
        have radd : ∀ T w, (binOp .add T (.float .f32 (sumTo (gusB o dr gp tl hs ts fc out) k)) (.float .f32 (fallOf hs ts (k : Int) fc))).run Tryd.prog w = .ok (.float .f32 (fadd (sumTo (gusB o dr gp tl hs ts fc out) k) (fallOf hs ts (k : Int) fc))) w := fun T w => run_float_arith w .add T .f32 _ _ _ (add_ok hp hgp).1
        unfold bitB at hbt
        clear hs1 hgp hp hgk
        go_wp2_with (go_at_call 79; refine (HF.out k hlt _ hb).mono ?_; rintro e w1 ⟨rfl, hb1⟩; replace hb := hb.trans (hb1.mono hb.size); clear hb1)
        go_roundw
        case rel => exact ⟨k + 1, by omega, by go_num, by rw [HS1.out], hb⟩
        case measure => simp [intOf]; omega
      · have hgk : gusB o dr gp tl hs ts fc out k = behOf o dr gp tl hs ts (k : Int) fc := if_pos hbt
        rw [hgk] at hs1 hgp
        have HS1 := Lib.hid hs1
        have radd : ∀ T w, (binOp .add T (.float .f32 (sumTo (gusB o dr gp tl hs ts fc out) k)) (.float .f32 (behOf o dr gp tl hs ts (k : Int) fc))).run Tryd.prog w = .ok (.float .f32 (fadd (sumTo (gusB o dr gp tl hs ts fc out) k) (behOf o dr gp tl hs ts (k : Int) fc))) w := fun T w => run_float_arith w .add T .f32 _ _ _ (add_ok hp hgp).1
        unfold bitB at hbt
        clear hs1 hgp hp hgk
        go_wp2_with (go_at_call 72; refine (HB.out k hlt _ hb).mono ?_; rintro e w1 ⟨rfl, hb1⟩; replace hb := hb.trans (hb1.mono hb.size); clear hb1)
        go_roundw
        case rel => exact ⟨k + 1, by omega, by go_num, by rw [HS1.out], hb⟩
        case measure => simp [intOf]; omega
    · obtain rfl : k = 24 := by omega
      go_wp2
      go_ret
      exact ⟨rfl, hb⟩

theorem gus_full (o dr gp tl : Nat) (hs ts : List Int) (fc : Int) : sumTo (gusB o dr gp tl hs ts fc 16777215) 24 = sumTo (fun k => behOf o dr gp tl hs ts (k : Int) fc) 24 := by
  have h : ∀ n, n ≤ 24 → sumTo (gusB o dr gp tl hs ts fc 16777215) n = sumTo (fun k => behOf o dr gp tl hs ts (k : Int) fc) n := by
    intro n
    induction n with
    | zero => intro _; rfl
    | succ n ih => intro hn; rw [sumTo_succ, sumTo_succ, ih (by omega), show gusB o dr gp tl hs ts fc 16777215 n = behOf o dr gp tl hs ts (n : Int) fc from if_pos (bit_all n (by omega))]
  exact h 24 (Nat.le_refl _)

end Go.Proofs.YtnienahjfocalaaDoor
