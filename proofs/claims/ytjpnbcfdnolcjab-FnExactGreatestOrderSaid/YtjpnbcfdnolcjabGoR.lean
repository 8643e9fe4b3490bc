/-
  The order with the greatest sum: the model's recursion.
-/
import Derived.Test.YtjpnbcfdnolcjabGoL
namespace Go.Proofs.Ytjpnbcfdnolcjab
open Go.ChangeShapes Go.WideShapes Go.ChangeAt Go.RowKit Go.Deep Go.Joins

attribute [local go_sem] run_store_f

theorem abs_any {P : Program} {md : Region.Mode} {ops : Array Oper} {Q : Exit → Act → World → Prop} {S : World → Prop} {fuel : Nat} {listed : Array Bool} {a : Act} {w : World} (R : World → Prop) (hw : R w) (h : ∀ V, R V → wpAnyH P md ops Q S fuel listed a V) : wpAnyH P md ops Q S fuel listed a w := h w hw

theorem ord_grown {W V : World} {v sv bv : Value} {o : List Nat} {b : Nat} {m : Nat} {f : Bool} {a : Option Addr} {n cap : Nat} (h : OrdAt W v o) (hsv : sv = .slice a n cap) (hr : W.heap[b]? = some (.cells #[sv, bv, .float .f32 m, .bool f] 53 (0, 0))) (hg : W.grownBy V (some b)) : OrdAt V v o := by
  obtain ⟨g, c, h1, h2⟩ := h
  refine ⟨g, c, h1, fun j x hx => ?_⟩
  have hpos : 0 < o.length := Nat.lt_of_le_of_lt (Nat.zero_le _) (List.getElem?_eq_some_iff.1 hx).1
  have h0 := h2 0 _ (getD_get hpos)
  have hne : g ≠ b := fun e => by
    subst e
    have := cell_k (k := 0) hr rfl
    rw [h0, hsv] at this
    cases this
  have hj := h2 j x hx
  have hlt := World.block_lt_of_cell? _ _ hj
  rw [← hj]
  exact World.cell?_of_block (hg.block g hlt (by simpa using hne))

theorem srow_grown0 {W V : World} {b : Nat} (h : Below W.heap.size W V) : W.grownBy V (some b) := grown_of_below h _

theorem leaves_low (n : Nat) : ∀ (d : Nat) (o p : List Nat), p ∈ leaves n d o → (∀ x ∈ o, x < n) → (∀ x ∈ p, x < n) ∧ p.length = o.length + d
  | 0, o, p, h, ho => by
    have e : p = o := by simpa [leaves] using h
    subst e; exact ⟨ho, rfl⟩
  | d + 1, o, p, h, ho => by
    rw [leaves, List.mem_flatMap] at h
    obtain ⟨k, hk, hp⟩ := h
    have hkn : k < n := by simpa using hk
    by_cases c : o.contains k = true
    · rw [if_pos c] at hp; cases hp
    · rw [if_neg c] at hp
      obtain ⟨a1, a2⟩ := leaves_low n d (o ++ [k]) p hp (fun x hx => by
        rcases List.mem_append.1 hx with h | h
        · exact ho x h
        · obtain rfl : x = k := by simpa using h
          exact hkn)
      exact ⟨a1, by rw [a2, List.length_append]; simp; omega⟩

theorem fold_num (zs : List Nat) : ∀ (l : List (List Nat)) (st : Option (List Nat × Nat)), (∀ p ∈ l, isNum (sumP zs p)) → (∀ s, st = some s → isNum s.2) → ∀ s, l.foldl (updM zs) st = some s → isNum s.2
  | [], st, _, h, s, e => h s e
  | p :: l, st, hp, h, s, e => by
    refine fold_num zs l (updM zs st p) (fun q hq => hp q (List.mem_cons_of_mem _ hq)) ?_ s e
    intro s2 e2
    have hpn := hp p List.mem_cons_self
    cases st with
    | none => obtain rfl := Option.some.inj e2; exact hpn
    | some s1 =>
      obtain rfl := Option.some.inj e2
      show isNum (updP zs s1 p).2
      rw [updP]
      split
      · exact hpn
      · exact h s1 rfl

def kids (n d : Nat) (o : List Nat) (k : Nat) : List (List Nat) := if o.contains k then [] else leaves n d (o ++ [k])

def stK (zs : List Nat) (n d : Nat) (o : List Nat) (st : Option (List Nat × Nat)) (k : Nat) : Option (List Nat × Nat) := ((List.range k).flatMap (kids n d o)).foldl (updM zs) st

theorem stK_step (zs : List Nat) (n d : Nat) (o : List Nat) (st : Option (List Nat × Nat)) (k : Nat) : stK zs n d o st (k + 1) = (kids n d o k).foldl (updM zs) (stK zs n d o st k) := by
  unfold stK
  rw [List.range_succ, List.flatMap_append, List.foldl_append]
  simp

theorem stK_all (zs : List Nat) (n d : Nat) (o : List Nat) (st : Option (List Nat × Nat)) : (leaves n (d + 1) o).foldl (updM zs) st = stK zs n d o st n := rfl

theorem stK_num {zs : List Nat} {n d k : Nat} {o : List Nat} {st : Option (List Nat × Nat)} (hq : ∀ z ∈ zs, PlnOk z) (hn : zs.length = n) (h48 : n ≤ 48) (hod : o.length + (d + 1) = n) (ho : ∀ x ∈ o, x < n) (hk : k ≤ n) (hst : ∀ s, st = some s → isNum s.2) : ∀ s, stK zs n d o st k = some s → isNum s.2 := by
  refine fold_num zs _ _ (fun p hp => ?_) hst
  obtain ⟨j, hj, hp⟩ := List.mem_flatMap.1 hp
  have hjn : j < n := by have : j < k := by simpa using hj
                         omega
  unfold kids at hp
  by_cases c : o.contains j = true
  · rw [if_pos c] at hp; cases hp
  · rw [if_neg c] at hp
    obtain ⟨a1, a2⟩ := leaves_low n d (o ++ [j]) p hp (fun x hx => by
      rcases List.mem_append.1 hx with h | h
      · exact ho x h
      · obtain rfl : x = j := by simpa using h
        exact hjn)
    rw [List.length_append] at a2
    exact (sum_facts hq (by simp at a2; omega) (by rw [hn]; exact a1)).2

theorem sum_snoc {zs o : List Nat} {k x : Nat} (hq : ∀ z ∈ zs, PlnOk z) (h48 : o.length + 1 ≤ 48) (ho : ∀ y ∈ o, y < zs.length) (hk : k < zs.length) (hx : zs[k]? = some x) : floatBits .add .f32 (sumP zs o) x = some (sumP zs (o ++ [k])) := by
  have hqa := (sum_facts (o := o ++ [k]) hq (by simpa using h48) (fun y hy => by
    rcases List.mem_append.1 hy with h | h
    · exact ho y h
    · obtain rfl : y = k := by simpa using h
      exact hk)).1
  have h := leftS_take (zs := (o ++ [k]).map fun i => zs.getD i 0) (k := o.length) (x := x) hqa (by simpa using h48) (by simp [hx])
  have t1 : ((o ++ [k]).map fun i => zs.getD i 0).take o.length = o.map fun i => zs.getD i 0 := by rw [List.map_append, List.take_append_of_le_length (by simp)]; exact List.take_of_length_le (by simp)
  have t2 : ((o ++ [k]).map fun i => zs.getD i 0).take (o.length + 1) = (o ++ [k]).map fun i => zs.getD i 0 := List.take_of_length_le (by simp)
  rw [t1, t2] at h
  exact h

theorem ord_cells {X : World} {g : Nat} {o : List Nat} (h : ∀ (j x : Nat), o[j]? = some x → X.cell? ⟨g, j, none⟩ = some (Value.int .i64 (x : Int))) {j : Nat} {u : Value} (hu : (o.map encN)[j]? = some u) : X.cell? ((⟨g, 0, none⟩ : Addr).add j) = some u := by
  rw [List.getElem?_map, Option.map_eq_some_iff] at hu
  obtain ⟨x, hx, rfl⟩ := hu
  rw [addr_add, Nat.zero_add]
  exact h j x hx

theorem one_cell {X : World} {g : Nat} {v : Value} (h : X.cell? ⟨g, 0, none⟩ = some v) {j : Nat} {u : Value} (hu : [v][j]? = some u) : X.cell? ((⟨g, 0, none⟩ : Addr).add j) = some u := by
  cases j with
  | zero =>
    obtain rfl : v = u := by simpa using hu
    rw [addr_add]; exact h
  | succ j => simp at hu

set_option maxRecDepth 100000 in
set_option maxHeartbeats 32000000 in
theorem from_any (W0 : World) (zs : List Nat) (lg lo cap b : Nat) (h48 : zs.length ≤ 6) (hq : ∀ z ∈ zs, PlnOk z) (hzl : FloatsAt W0 (.slice (some ⟨lg, lo, none⟩) zs.length cap) zs) (hbb : W0.heap.size ≤ b) :
    ∀ (d : Nat) (o : List Nat) (st : Option (List Nat × Nat)) (ov : Value) (W : World), o.length + d = zs.length → (∀ x ∈ o, x < zs.length) → (∀ s, st = some s → isNum s.2) → OrdAt W ov o → SRow W b W0.heap.size (.slice (some ⟨lg, lo, none⟩) zs.length cap) st → Below W0.heap.size W0 W →
    Calls Try.prog 59 #[.pointer (some ⟨b, 0, none⟩), ov, .float .f32 (sumP zs o)] W (FromRet ((leaves zs.length d o).foldl (updM zs) st) W b W0.heap.size (.slice (some ⟨lg, lo, none⟩) zs.length cap)) := by
  intro d
  induction d with
  | zero =>
    intro o st ov W hod ho hst hord hs hbw
    exact from_leaf _ ov zs o b W0.heap.size _ st W (by omega) (by omega) (sum_facts hq (by omega) ho).2 hst rfl (floats_below hzl hbw) hord hs hbw.size
  | succ d ih =>
    intro o st ov W hod ho hst hord hs hbw
    obtain ⟨i0, hin, hz0, hz1, hz2⟩ := info_parts info_i64
    rw [stK_all]
    have HZ := Lib.hid (fun V (hb : Below W0.heap.size W0 V) => floats_below hzl hb)
    have HIH0 := Lib.hid ih
    have HORD0 := Lib.hid hord
    have HNUM := Lib.hid (fun k (hk : k ≤ zs.length) => stK_num (n := zs.length) (d := d) (k := k) (o := o) (st := st) hq rfl (by omega) hod ho hk hst)
    have HSUM := Lib.hid (fun k x (hk : k < zs.length) (hx : zs[k]? = some x) => sum_snoc (o := o) hq (by omega) ho hk hx)
    have HSTEP := Lib.hid (fun k => stK_step zs zs.length d o st k)
    have HLOW := Lib.hid ho
    have HSR0 := Lib.hid (show SRow W b W0.heap.size (.slice (some ⟨lg, lo, none⟩) zs.length cap) (stK zs zs.length d o st 0) from hs)
    have HW0 := Lib.hid hbw
    obtain ⟨gO0, capO0, rfl, -⟩ := id hord
    have zne : ((o.length : Int) == (zs.length : Int)) = false := beq_eq_false_iff_ne.2 (by omega)
    obtain ⟨bv0, hrow0, -⟩ := id hs
    have q0 := cell_k (k := 0) hrow0 rfl
    have hlo := hod
    have HROW0 := Lib.hid hrow0
    clear ih hord hst hs hbw hrow0 ho
    generalize hsm : sumP zs o = sm at *
    go_enter Try.func59, Try.ntmps59
    go_wp2
    go_loopw [6] (fun i wr => ∃ k : Nat, k ≤ zs.length ∧ i = .int .i64 k ∧ Below W0.heap.size W0 wr ∧ SRow wr b W0.heap.size (.slice (some ⟨lg, lo, none⟩) zs.length cap) (stK zs zs.length d o st k) ∧ W.grownBy wr (some b)) (fun i _ => zs.length - (intOf i).toNat)
    case atStart => exact ⟨0, Nat.zero_le _, rfl, HW0.out, HSR0.out, below_grown6 (Below.refl _ _) b⟩
    case round =>
      clear q0 zne
      obtain ⟨k, hk, rfl, hbw, hsr, hgr⟩ := hrel
      obtain ⟨bv, hrow, -⟩ := id hsr
      have q0 := cell_k (k := 0) hrow rfl
      have HSR := Lib.hid hsr
      have HGR := Lib.hid hgr
      have HBW := Lib.hid hbw
      clear hrow hsr
      by_cases hlt : k < zs.length
      · have hordw := ord_grown HORD0.out rfl HROW0.out hgr
        have HORD := Lib.hid hordw
        have HH := Lib.hid (has_any _ o k (by omega) wr hordw)
        have z1 : (k : Int) < (zs.length : Int) := by omega
        have z2 : (0 : Int) ≤ (k : Int) := by omega
        have z3 : decide ((k : Int) < (zs.length : Int)) = true := decide_eq_true z1
        clear hordw hgr
        cases hcn : o.contains k with
        | true =>
          have HSTK : Hid (stK zs zs.length d o st (k + 1) = stK zs zs.length d o st k) := Lib.hid (by rw [HSTEP.out, kids, if_pos hcn]; rfl)
          rw [hcn] at HH
          clear hcn
          go_wp2_with (go_at_call 78; refine HH.out.mono ?_; rintro e w' ⟨rfl, rfl⟩)
          go_roundw
          case rel => exact ⟨k + 1, by omega, by go_num, hbw, by rw [HSTK.out]; exact HSR.out, HGR.out⟩
          case measure => simp [intOf]; omega
        | false =>
          have HSTK : Hid (stK zs zs.length d o st (k + 1) = (leaves zs.length d (o ++ [k])).foldl (updM zs) (stK zs zs.length d o st k)) := Lib.hid (by rw [HSTEP.out, kids, if_neg (by rw [hcn]; decide)])
          rw [hcn] at HH
          clear hcn
          have hx := getD_get hlt
          generalize zs.getD k 0 = x at *
          have c0 : ∀ V, Below W0.heap.size W0 V → V.cell? ⟨lg, lo + k, none⟩ = some (.float .f32 x) := fun V hV => by
            obtain ⟨g', o', eg, c⟩ := float_at (HZ.out V hV) hx
            obtain ⟨rfl, rfl⟩ : lg = g' ∧ lo = o' := by simpa using eg
            exact c
          have cw := c0 wr hbw
          have HS : Hid (∀ V, Below wr.heap.size wr V → V.cell? ⟨b, 0, none⟩ = some (.slice (some ⟨lg, lo, none⟩) zs.length cap) ∧ V.cell? ⟨lg, lo + k, none⟩ = some (.float .f32 x)) := Lib.hid (fun V hV => ⟨cell_below hV q0, cell_below hV cw⟩)
          have HS2 : Hid (∀ V, Below W0.heap.size W0 V → ∀ (st' : Option (List Nat × Nat)), SRow V b W0.heap.size (.slice (some ⟨lg, lo, none⟩) zs.length cap) st' → V.cell? ⟨b, 0, none⟩ = some (.slice (some ⟨lg, lo, none⟩) zs.length cap) ∧ V.cell? ⟨lg, lo + k, none⟩ = some (.float .f32 x)) := Lib.hid (fun V hV st' hs => by
            obtain ⟨bv', r', _⟩ := hs
            exact ⟨cell_k (k := 0) r' rfl, c0 V hV⟩)
          have ra := fun T w => run_float_arith (P := Try.prog) w .add T .f32 _ _ _ (HSUM.out k x hlt hx)
          have HIH := Lib.hid (fun X v2 (h1 : OrdAt X v2 (o ++ [k])) h2 (h3 : Below W0.heap.size W0 X) => HIH0.out (o ++ [k]) (stK zs zs.length d o st k) v2 X (by rw [List.length_append]; simp; omega) (fun y hy => by
            rcases List.mem_append.1 hy with h | h
            · exact HLOW.out y h
            · obtain rfl : y = k := by simpa using h
              exact hlt) (HNUM.out k hk) h1 h2 h3)
          generalize sumP zs (o ++ [k]) = sm2 at *
          clear c0 cw hx
          go_upto_region 9 with (go_at_call 78; refine HH.out.mono ?_; rintro e w' ⟨rfl, rfl⟩)
          clear HH hbw q0
          refine wp_region_held_drew (S := (fun V => V.cell? ⟨b, 0, none⟩ = some (.slice (some ⟨lg, lo, none⟩) zs.length cap) ∧ V.cell? ⟨lg, lo + k, none⟩ = some (.float .f32 x))) (by kernel_rfl) (HS.out _ (Below.refl _ _).drew) (fun hHeld => ?_)
          refine take_op (i := 0) (d := 54) (v := ?_) rfl rfl (by kernel_rfl) (by kernel_rfl) (by kernel_rfl) (fun _ _ _ h => h) (Or.inl ⟨by rfl, ?hy0u69⟩) hHeld ?rest0u69
          case hy0u69 =>
            intro w' hS'
            obtain ⟨s1, s2⟩ := hS'
            go_simp
            try with_reducible rfl
          simp only [List.setIfInBounds_toArray, List.set_cons_zero, List.set_cons_succ]
          refine take_op (i := 2) (d := 56) (v := ?_) rfl rfl (by kernel_rfl) (by kernel_rfl) (by kernel_rfl) (fun _ _ _ h => h) (Or.inl ⟨by rfl, ?hy2u70⟩) hHeld ?rest2u70
          case hy2u70 =>
            intro w' hS'
            obtain ⟨s1, s2⟩ := hS'
            go_simp
            try with_reducible rfl
          simp only [List.setIfInBounds_toArray, List.set_cons_zero, List.set_cons_succ]
          refine take_op (i := 4) (d := 58) (v := ?_) rfl rfl (by kernel_rfl) (by kernel_rfl) (by kernel_rfl) (fun _ _ _ h => h) (Or.inl ⟨by rfl, ?hy4u71⟩) hHeld ?rest4u71
          case hy4u71 =>
            intro w' hS'
            obtain ⟨s1, s2⟩ := hS'
            go_simp
            try with_reducible rfl
          simp only [List.setIfInBounds_toArray, List.set_cons_zero, List.set_cons_succ]
          refine take_op (i := 7) (d := 61) (v := ?_) rfl rfl (by kernel_rfl) (by kernel_rfl) (by kernel_rfl) (fun _ _ _ h => h) (Or.inl ⟨by rfl, ?hy7u72⟩) hHeld ?rest7u72
          case hy7u72 =>
            intro w' hS'
            obtain ⟨s1, s2⟩ := hS'
            go_simp
            try with_reducible rfl
          simp only [List.setIfInBounds_toArray, List.set_cons_zero, List.set_cons_succ]
          refine take_op (i := 8) (d := 62) (v := ?_) rfl rfl (by kernel_rfl) (by kernel_rfl) (by kernel_rfl) (fun _ _ _ h => h) (Or.inl ⟨by rfl, ?hy8u73⟩) hHeld ?rest8u73
          case hy8u73 =>
            intro w' hS'
            obtain ⟨s1, s2⟩ := hS'
            go_simp
            try with_reducible rfl
          simp only [List.setIfInBounds_toArray, List.set_cons_zero, List.set_cons_succ]
          refine take_op (i := 9) (d := 63) (v := ?_) rfl rfl (by kernel_rfl) (by kernel_rfl) (by kernel_rfl) (fun _ _ _ h => h) (Or.inl ⟨by rfl, ?hy9u74⟩) hHeld ?rest9u74
          case hy9u74 =>
            intro w' hS'
            obtain ⟨s1, s2⟩ := hS'
            go_simp
            try with_reducible rfl
          simp only [List.setIfInBounds_toArray, List.set_cons_zero, List.set_cons_succ]
          refine take_op (i := 10) (d := 64) (v := ?_) rfl rfl (by kernel_rfl) (by kernel_rfl) (by kernel_rfl) (fun _ _ _ h => h) (Or.inl ⟨by rfl, ?hy10u75⟩) hHeld ?rest10u75
          case hy10u75 =>
            intro w' hS'
            obtain ⟨s1, s2⟩ := hS'
            go_simp
            try with_reducible rfl
          simp only [List.setIfInBounds_toArray, List.set_cons_zero, List.set_cons_succ]
          refine take_op (i := 11) (d := 65) (v := ?_) rfl rfl (by kernel_rfl) (by kernel_rfl) (by kernel_rfl) (fun _ _ _ h => h) (Or.inl ⟨by rfl, ?hy11u76⟩) hHeld ?rest11u76
          case hy11u76 =>
            intro w' hS'
            obtain ⟨s1, s2⟩ := hS'
            go_simp
            try with_reducible rfl
          simp only [List.setIfInBounds_toArray, List.set_cons_zero, List.set_cons_succ]
          refine take_op (i := 12) (d := 66) (v := ?_) rfl rfl (by kernel_rfl) (by kernel_rfl) (by kernel_rfl) (fun _ _ _ h => h) (Or.inl ⟨by rfl, ?hy12u77⟩) hHeld ?rest12u77
          case hy12u77 =>
            intro w' hS'
            obtain ⟨s1, s2⟩ := hS'
            go_simp
            try with_reducible rfl
          simp only [List.setIfInBounds_toArray, List.set_cons_zero, List.set_cons_succ]
          refine take_op (i := 13) (d := 67) (v := ?_) rfl rfl (by kernel_rfl) (by kernel_rfl) (by kernel_rfl) (fun _ _ _ h => h) (Or.inl ⟨by rfl, ?hy13u78⟩) hHeld ?rest13u78
          case hy13u78 =>
            intro w' hS'
            obtain ⟨s1, s2⟩ := hS'
            go_simp
            try with_reducible rfl
          simp only [List.setIfInBounds_toArray, List.set_cons_zero, List.set_cons_succ]
          refine take_op (i := 14) (d := 68) (v := ?_) rfl rfl (by kernel_rfl) (by kernel_rfl) (by kernel_rfl) (fun _ _ _ h => h) (Or.inl ⟨by rfl, ?hy14u79⟩) hHeld ?rest14u79
          case hy14u79 =>
            intro w' hS'
            obtain ⟨s1, s2⟩ := hS'
            go_simp
            try with_reducible rfl
          simp only [List.setIfInBounds_toArray, List.set_cons_zero, List.set_cons_succ]
          refine take_op (i := 15) (d := 69) (v := ?_) rfl rfl (by kernel_rfl) (by kernel_rfl) (by kernel_rfl) (fun _ _ _ h => h) (Or.inl ⟨by rfl, ?hy15u80⟩) hHeld ?rest15u80
          case hy15u80 =>
            intro w' hS'
            obtain ⟨s1, s2⟩ := hS'
            go_simp
            try with_reducible rfl
          simp only [List.setIfInBounds_toArray, List.set_cons_zero, List.set_cons_succ]
          refine abs_any (fun V => (V.cell? ⟨b, 0, none⟩ = some (.slice (some ⟨lg, lo, none⟩) zs.length cap) ∧ V.cell? ⟨lg, lo + k, none⟩ = some (.float .f32 x)) ∧ Below wr.heap.size wr V) ⟨hHeld, (Below.refl _ _).drew⟩ ?_
          clear hHeld
          rintro X ⟨hHeld, hB⟩
          refine wpAnyH_ready (rs := [1, 5]) (by kernel_rfl) (by simp) ?_
          refine AllReadyH.cons rfl (fun K hK => ?_) (AllReadyH.cons rfl (fun K hK => ?_) AllReadyH.nil)
          · go_simp
            refine hK.out _ _ (HS.out _ (hB.alloc hB.size (.cells #[] 2))) (fun _ => ?_)
            clear hK K
            obtain ⟨G0, hG0⟩ : ∃ G, G = X.heap.size := ⟨_, rfl⟩
            have hr0 : (X.alloc (.cells #[] 2)).ownsRow wr.heap.size 2 1 (.slice (some ⟨X.heap.size, 0, none⟩) 0 0) 0 [] := World.ownsRow_made X _ _ hB.size (Nat.zero_le _) rfl
            have hs0 : X.heap.size < (X.alloc (.cells #[] 2)).heap.size := by simp
            rw [← hG0] at hr0 hs0 ⊢
            clear hG0
            refine abs_any (fun V => (V.cell? ⟨b, 0, none⟩ = some (.slice (some ⟨lg, lo, none⟩) zs.length cap) ∧ V.cell? ⟨lg, lo + k, none⟩ = some (.float .f32 x)) ∧ Below wr.heap.size wr V ∧ V.ownsRow wr.heap.size 2 1 (.slice (some ⟨G0, 0, none⟩) 0 0) 0 [] ∧ G0 < V.heap.size) ⟨HS.out _ (hB.alloc hB.size _), hB.alloc hB.size _, hr0, hs0⟩ ?_
            clear hHeld hB hr0 hs0
            rintro X ⟨hHeld, hB, hR0, hs0⟩
            refine wpAnyH_ready (rs := [3, 5]) (by kernel_rfl) (by simp) ?_
            refine AllReadyH.cons rfl (fun K hK => ?_) (AllReadyH.cons rfl (fun K hK => ?_) AllReadyH.nil)
            · show Oper.wp _ _ _ _ _ _
              obtain ⟨gO, capO, eO, hcO⟩ := ord_below (HORD.out) hB
              refine wp_append_own _ (.tmp 55) (.tmp 56) 33 rfl wr.heap.size 2 i0 (.int .i64 0) 1 8 Try.underlying33 hin hz0 hz1 hz2 rfl (by decide) (.slice (some ⟨G0, 0, none⟩) 0 0) _ _ rfl hR0 ⟨gO, 0, none⟩ o.length capO (o.map encN) eO (by rw [List.length_map]; omega) (fun j u hu => ord_cells hcO hu) (by intro u hu; obtain ⟨y, _, rfl⟩ := List.mem_map.1 hu; rfl) (by unfold maxLen; omega) (by omega) hB.size ?_
              intro v1 V hown hgrow hnil
              rw [List.nil_append, Nat.zero_add] at hown
              have hnn1 : v1 ≠ .slice none 0 0 := fun e => by have := (hnil.1 e).1; cases this
              have hbn := hB.grown hgrow hB.size (row_base hR0)
              refine hK.out _ _ (HS.out _ hbn) (fun _ => ?_)
              clear hK K
              refine abs_any (fun V => (V.cell? ⟨b, 0, none⟩ = some (.slice (some ⟨lg, lo, none⟩) zs.length cap) ∧ V.cell? ⟨lg, lo + k, none⟩ = some (.float .f32 x)) ∧ Below wr.heap.size wr V ∧ V.ownsRow wr.heap.size 2 1 v1 o.length (o.map encN)) ⟨HS.out _ hbn, hbn, hown⟩ ?_
              clear hHeld hB hR0 hown hgrow hnil hbn hs0
              rintro X ⟨hHeld, hB, hR3⟩
              refine wpAnyH_ready (rs := [5]) (by kernel_rfl) (by simp) ?_
              refine AllReadyH.cons rfl (fun K hK => ?_) AllReadyH.nil
              go_simp
              refine hK.out _ _ (HS.out _ (hB.alloc hB.size (.cells #[.int .i64 (k : Int)] 2))) (fun _ => ?_)
              clear hK K
              obtain ⟨G5, hG5⟩ : ∃ G, G = X.heap.size := ⟨_, rfl⟩
              have hk5 : (X.alloc (.cells #[.int .i64 (k : Int)] 2)).cell? ⟨X.heap.size, 0, none⟩ = some (.int .i64 (k : Int)) := cell_k (heap_alloc_new _ _) rfl
              rw [← hG5] at hk5 ⊢
              clear hG5
              refine abs_any (fun V => (V.cell? ⟨b, 0, none⟩ = some (.slice (some ⟨lg, lo, none⟩) zs.length cap) ∧ V.cell? ⟨lg, lo + k, none⟩ = some (.float .f32 x)) ∧ Below wr.heap.size wr V ∧ V.ownsRow wr.heap.size 2 1 v1 o.length (o.map encN) ∧ V.cell? ⟨G5, 0, none⟩ = some (.int .i64 (k : Int))) ⟨HS.out _ (hB.alloc hB.size _), hB.alloc hB.size _, hR3.alloc _, hk5⟩ ?_
              clear hHeld hB hR3 hk5
              rintro X ⟨hHeld, hB, hR3, hK5⟩
              refine wpAnyH_ready (rs := [6]) (by kernel_rfl) (by simp) ?_
              refine AllReadyH.cons rfl (fun K hK => ?_) AllReadyH.nil
              show Oper.wp _ _ _ _ _ _
              refine wp_append_own _ (.tmp 57) (.tmp 59) 33 rfl wr.heap.size 2 i0 (.int .i64 0) 1 8 Try.underlying33 hin hz0 hz1 hz2 rfl (by decide) v1 _ _ rfl hR3 ⟨G5, 0, none⟩ 1 1 [.int .i64 (k : Int)] rfl rfl (fun j u hu => one_cell hK5 hu) (fun u hu => by rw [List.mem_singleton.1 hu]; rfl) (by unfold maxLen; omega) (by omega) hB.size ?_
              intro v2 V hown hgrow hnil
              have hnn2 : v2 ≠ .slice none 0 0 := fun e => by have := (hnil.1 e).2; cases this
              have hbn := hB.grown hgrow hB.size (row_base hR3)
              refine hK.out _ _ (HS.out _ hbn) (fun _ => ?_)
              clear hK K
              refine abs_any (fun V => (V.cell? ⟨b, 0, none⟩ = some (.slice (some ⟨lg, lo, none⟩) zs.length cap) ∧ V.cell? ⟨lg, lo + k, none⟩ = some (.float .f32 x)) ∧ Below wr.heap.size wr V ∧ V.ownsRow wr.heap.size 2 1 v2 (o.length + 1) (o.map encN ++ [Value.int .i64 (k : Int)])) ⟨HS.out _ hbn, hbn, hown⟩ ?_
              clear hHeld hB hR3 hK5 hown hgrow hnil hbn hnn1
              rintro X ⟨hHeld, hB, hR6⟩
              refine wpAnyH_ready (rs := [16]) (by kernel_rfl) (by simp) ?_
              refine AllReadyH.cons rfl (fun K hK => ?_) AllReadyH.nil
              have hord : OrdAt X v2 (o ++ [k]) := ord_row (base := wr.heap.size) (n := o.length + 1) (by rw [List.map_append]; exact hR6) hnn2
              have hW0X := HBW.out.trans (hB.mono HBW.out.size)
              have hIH := HIH.out X v2 hord (srow_keep HSR.out hB) hW0X
              clear hR6 hord hnn2
              go_simp
              refine hIH.mono ?_
              rintro e W1 ⟨rfl, hs1, hg1⟩
              have hW01 := hW0X.grown hg1 hW0X.size (fun j e => by cases e; exact hbb)
              have hgr := grown_trans (grown_of_below hB (some b)) hg1
              refine hK.out _ _ (HS2.out _ hW01 _ hs1) (fun _ => ?_)
              clear hK K
              refine wpAnyH_done (by kernel_rfl) ?_ _
              refine abs_exit (fun V => Below W0.heap.size W0 V ∧ SRow V b W0.heap.size (.slice (some ⟨lg, lo, none⟩) zs.length cap) (stK zs zs.length d o st (k + 1)) ∧ wr.grownBy V (some b)) ⟨hW01, by rw [HSTK.out]; exact hs1, hgr⟩ ?_
              rintro V9 ⟨hx1, hx2, hx3⟩
              have HX2 := Lib.hid hx2
              clear hHeld hB hW0X hIH hs1 hg1 hW01 hgr hx2
              go_wp2
              go_roundw
              case rel => exact ⟨k + 1, by omega, by go_num, hx1, HX2.out, grown_trans HGR.out hx3⟩
              case measure => simp [intOf]; omega
            · go_simp
              refine hK.out _ _ (HS.out _ (hB.alloc hB.size (.cells #[.int .i64 (k : Int)] 2))) (fun _ => ?_)
              clear hK K
              have hne05 : X.heap.size ≠ G0 := by omega
              clear hs0
              obtain ⟨G5, hG5⟩ : ∃ G, G = X.heap.size := ⟨_, rfl⟩
              have hk5 : (X.alloc (.cells #[.int .i64 (k : Int)] 2)).cell? ⟨X.heap.size, 0, none⟩ = some (.int .i64 (k : Int)) := cell_k (heap_alloc_new _ _) rfl
              rw [← hG5] at hk5 hne05 ⊢
              clear hG5
              refine abs_any (fun V => (V.cell? ⟨b, 0, none⟩ = some (.slice (some ⟨lg, lo, none⟩) zs.length cap) ∧ V.cell? ⟨lg, lo + k, none⟩ = some (.float .f32 x)) ∧ Below wr.heap.size wr V ∧ V.ownsRow wr.heap.size 2 1 (.slice (some ⟨G0, 0, none⟩) 0 0) 0 [] ∧ V.cell? ⟨G5, 0, none⟩ = some (.int .i64 (k : Int))) ⟨HS.out _ (hB.alloc hB.size _), hB.alloc hB.size _, hR0.alloc _, hk5⟩ ?_
              clear hHeld hB hR0 hk5
              rintro X ⟨hHeld, hB, hR0, hK5⟩
              refine wpAnyH_ready (rs := [3]) (by kernel_rfl) (by simp) ?_
              refine AllReadyH.cons rfl (fun K hK => ?_) AllReadyH.nil
              show Oper.wp _ _ _ _ _ _
              obtain ⟨gO, capO, eO, hcO⟩ := ord_below (HORD.out) hB
              refine wp_append_own _ (.tmp 55) (.tmp 56) 33 rfl wr.heap.size 2 i0 (.int .i64 0) 1 8 Try.underlying33 hin hz0 hz1 hz2 rfl (by decide) (.slice (some ⟨G0, 0, none⟩) 0 0) _ _ rfl hR0 ⟨gO, 0, none⟩ o.length capO (o.map encN) eO (by rw [List.length_map]; omega) (fun j u hu => ord_cells hcO hu) (by intro u hu; obtain ⟨y, _, rfl⟩ := List.mem_map.1 hu; rfl) (by unfold maxLen; omega) (by omega) hB.size ?_
              intro v1 V hown hgrow hnil
              rw [List.nil_append, Nat.zero_add] at hown
              have hnn1 : v1 ≠ .slice none 0 0 := fun e => by have := (hnil.1 e).1; cases this
              have hbn := hB.grown hgrow hB.size (row_base hR0)
              have hk5 := (World.cell?_of_block (a := ⟨G5, 0, none⟩) (hgrow.block G5 (World.block_lt_of_cell? _ _ hK5) (by simp [Value.ownBlock]; exact hne05))).trans hK5
              refine hK.out _ _ (HS.out _ hbn) (fun _ => ?_)
              clear hK K
              refine abs_any (fun V => (V.cell? ⟨b, 0, none⟩ = some (.slice (some ⟨lg, lo, none⟩) zs.length cap) ∧ V.cell? ⟨lg, lo + k, none⟩ = some (.float .f32 x)) ∧ Below wr.heap.size wr V ∧ V.cell? ⟨G5, 0, none⟩ = some (.int .i64 (k : Int)) ∧ V.ownsRow wr.heap.size 2 1 v1 o.length (o.map encN)) ⟨HS.out _ hbn, hbn, hk5, hown⟩ ?_
              clear hHeld hB hR0 hK5 hown hgrow hnil hbn hk5 hne05
              rintro X ⟨hHeld, hB, hK5, hR3⟩
              refine wpAnyH_ready (rs := [6]) (by kernel_rfl) (by simp) ?_
              refine AllReadyH.cons rfl (fun K hK => ?_) AllReadyH.nil
              show Oper.wp _ _ _ _ _ _
              refine wp_append_own _ (.tmp 57) (.tmp 59) 33 rfl wr.heap.size 2 i0 (.int .i64 0) 1 8 Try.underlying33 hin hz0 hz1 hz2 rfl (by decide) v1 _ _ rfl hR3 ⟨G5, 0, none⟩ 1 1 [.int .i64 (k : Int)] rfl rfl (fun j u hu => one_cell hK5 hu) (fun u hu => by rw [List.mem_singleton.1 hu]; rfl) (by unfold maxLen; omega) (by omega) hB.size ?_
              intro v2 V hown hgrow hnil
              have hnn2 : v2 ≠ .slice none 0 0 := fun e => by have := (hnil.1 e).2; cases this
              have hbn := hB.grown hgrow hB.size (row_base hR3)
              refine hK.out _ _ (HS.out _ hbn) (fun _ => ?_)
              clear hK K
              refine abs_any (fun V => (V.cell? ⟨b, 0, none⟩ = some (.slice (some ⟨lg, lo, none⟩) zs.length cap) ∧ V.cell? ⟨lg, lo + k, none⟩ = some (.float .f32 x)) ∧ Below wr.heap.size wr V ∧ V.ownsRow wr.heap.size 2 1 v2 (o.length + 1) (o.map encN ++ [Value.int .i64 (k : Int)])) ⟨HS.out _ hbn, hbn, hown⟩ ?_
              clear hHeld hB hK5 hR3 hown hgrow hnil hbn hnn1
              rintro X ⟨hHeld, hB, hR6⟩
              refine wpAnyH_ready (rs := [16]) (by kernel_rfl) (by simp) ?_
              refine AllReadyH.cons rfl (fun K hK => ?_) AllReadyH.nil
              have hord : OrdAt X v2 (o ++ [k]) := ord_row (base := wr.heap.size) (n := o.length + 1) (by rw [List.map_append]; exact hR6) hnn2
              have hW0X := HBW.out.trans (hB.mono HBW.out.size)
              have hIH := HIH.out X v2 hord (srow_keep HSR.out hB) hW0X
              clear hR6 hord hnn2
              go_simp
              refine hIH.mono ?_
              rintro e W1 ⟨rfl, hs1, hg1⟩
              have hW01 := hW0X.grown hg1 hW0X.size (fun j e => by cases e; exact hbb)
              have hgr := grown_trans (grown_of_below hB (some b)) hg1
              refine hK.out _ _ (HS2.out _ hW01 _ hs1) (fun _ => ?_)
              clear hK K
              refine wpAnyH_done (by kernel_rfl) ?_ _
              refine abs_exit (fun V => Below W0.heap.size W0 V ∧ SRow V b W0.heap.size (.slice (some ⟨lg, lo, none⟩) zs.length cap) (stK zs zs.length d o st (k + 1)) ∧ wr.grownBy V (some b)) ⟨hW01, by rw [HSTK.out]; exact hs1, hgr⟩ ?_
              rintro V9 ⟨hx1, hx2, hx3⟩
              have HX2 := Lib.hid hx2
              clear hHeld hB hW0X hIH hs1 hg1 hW01 hgr hx2
              go_wp2
              go_roundw
              case rel => exact ⟨k + 1, by omega, by go_num, hx1, HX2.out, grown_trans HGR.out hx3⟩
              case measure => simp [intOf]; omega
          · go_simp
            refine hK.out _ _ (HS.out _ (hB.alloc hB.size (.cells #[.int .i64 (k : Int)] 2))) (fun _ => ?_)
            clear hK K
            obtain ⟨G5, hG5⟩ : ∃ G, G = X.heap.size := ⟨_, rfl⟩
            have hk5 : (X.alloc (.cells #[.int .i64 (k : Int)] 2)).cell? ⟨X.heap.size, 0, none⟩ = some (.int .i64 (k : Int)) := cell_k (heap_alloc_new _ _) rfl
            rw [← hG5] at hk5 ⊢
            clear hG5
            refine abs_any (fun V => (V.cell? ⟨b, 0, none⟩ = some (.slice (some ⟨lg, lo, none⟩) zs.length cap) ∧ V.cell? ⟨lg, lo + k, none⟩ = some (.float .f32 x)) ∧ Below wr.heap.size wr V ∧ V.cell? ⟨G5, 0, none⟩ = some (.int .i64 (k : Int))) ⟨HS.out _ (hB.alloc hB.size _), hB.alloc hB.size _, hk5⟩ ?_
            clear hHeld hB hk5
            rintro X ⟨hHeld, hB, hK5⟩
            refine wpAnyH_ready (rs := [1]) (by kernel_rfl) (by simp) ?_
            refine AllReadyH.cons rfl (fun K hK => ?_) AllReadyH.nil
            go_simp
            refine hK.out _ _ (HS.out _ (hB.alloc hB.size (.cells #[] 2))) (fun _ => ?_)
            clear hK K
            have hne05 : G5 ≠ X.heap.size := by have := World.block_lt_of_cell? _ _ hK5; simp at this; omega
            obtain ⟨G0, hG0⟩ : ∃ G, G = X.heap.size := ⟨_, rfl⟩
            have hr0 : (X.alloc (.cells #[] 2)).ownsRow wr.heap.size 2 1 (.slice (some ⟨X.heap.size, 0, none⟩) 0 0) 0 [] := World.ownsRow_made X _ _ hB.size (Nat.zero_le _) rfl
            have hs0 : X.heap.size < (X.alloc (.cells #[] 2)).heap.size := by simp
            rw [← hG0] at hr0 hs0 hne05 ⊢
            clear hG0
            refine abs_any (fun V => (V.cell? ⟨b, 0, none⟩ = some (.slice (some ⟨lg, lo, none⟩) zs.length cap) ∧ V.cell? ⟨lg, lo + k, none⟩ = some (.float .f32 x)) ∧ Below wr.heap.size wr V ∧ V.cell? ⟨G5, 0, none⟩ = some (.int .i64 (k : Int)) ∧ V.ownsRow wr.heap.size 2 1 (.slice (some ⟨G0, 0, none⟩) 0 0) 0 [] ∧ G0 < V.heap.size) ⟨HS.out _ (hB.alloc hB.size _), hB.alloc hB.size _, cell_below ((Below.refl _ _).alloc (Nat.le_refl _) _) hK5, hr0, hs0⟩ ?_
            clear hHeld hB hK5 hr0 hs0
            rintro X ⟨hHeld, hB, hK5, hR0, hs0⟩
            refine wpAnyH_ready (rs := [3]) (by kernel_rfl) (by simp) ?_
            refine AllReadyH.cons rfl (fun K hK => ?_) AllReadyH.nil
            show Oper.wp _ _ _ _ _ _
            obtain ⟨gO, capO, eO, hcO⟩ := ord_below (HORD.out) hB
            refine wp_append_own _ (.tmp 55) (.tmp 56) 33 rfl wr.heap.size 2 i0 (.int .i64 0) 1 8 Try.underlying33 hin hz0 hz1 hz2 rfl (by decide) (.slice (some ⟨G0, 0, none⟩) 0 0) _ _ rfl hR0 ⟨gO, 0, none⟩ o.length capO (o.map encN) eO (by rw [List.length_map]; omega) (fun j u hu => ord_cells hcO hu) (by intro u hu; obtain ⟨y, _, rfl⟩ := List.mem_map.1 hu; rfl) (by unfold maxLen; omega) (by omega) hB.size ?_
            intro v1 V hown hgrow hnil
            rw [List.nil_append, Nat.zero_add] at hown
            have hnn1 : v1 ≠ .slice none 0 0 := fun e => by have := (hnil.1 e).1; cases this
            have hbn := hB.grown hgrow hB.size (row_base hR0)
            have hk5 := (World.cell?_of_block (a := ⟨G5, 0, none⟩) (hgrow.block G5 (World.block_lt_of_cell? _ _ hK5) (by simp [Value.ownBlock]; exact hne05))).trans hK5
            refine hK.out _ _ (HS.out _ hbn) (fun _ => ?_)
            clear hK K
            refine abs_any (fun V => (V.cell? ⟨b, 0, none⟩ = some (.slice (some ⟨lg, lo, none⟩) zs.length cap) ∧ V.cell? ⟨lg, lo + k, none⟩ = some (.float .f32 x)) ∧ Below wr.heap.size wr V ∧ V.cell? ⟨G5, 0, none⟩ = some (.int .i64 (k : Int)) ∧ V.ownsRow wr.heap.size 2 1 v1 o.length (o.map encN)) ⟨HS.out _ hbn, hbn, hk5, hown⟩ ?_
            clear hHeld hB hK5 hR0 hown hgrow hnil hbn hk5 hne05
            rintro X ⟨hHeld, hB, hK5, hR3⟩
            refine wpAnyH_ready (rs := [6]) (by kernel_rfl) (by simp) ?_
            refine AllReadyH.cons rfl (fun K hK => ?_) AllReadyH.nil
            show Oper.wp _ _ _ _ _ _
            refine wp_append_own _ (.tmp 57) (.tmp 59) 33 rfl wr.heap.size 2 i0 (.int .i64 0) 1 8 Try.underlying33 hin hz0 hz1 hz2 rfl (by decide) v1 _ _ rfl hR3 ⟨G5, 0, none⟩ 1 1 [.int .i64 (k : Int)] rfl rfl (fun j u hu => one_cell hK5 hu) (fun u hu => by rw [List.mem_singleton.1 hu]; rfl) (by unfold maxLen; omega) (by omega) hB.size ?_
            intro v2 V hown hgrow hnil
            have hnn2 : v2 ≠ .slice none 0 0 := fun e => by have := (hnil.1 e).2; cases this
            have hbn := hB.grown hgrow hB.size (row_base hR3)
            refine hK.out _ _ (HS.out _ hbn) (fun _ => ?_)
            clear hK K
            refine abs_any (fun V => (V.cell? ⟨b, 0, none⟩ = some (.slice (some ⟨lg, lo, none⟩) zs.length cap) ∧ V.cell? ⟨lg, lo + k, none⟩ = some (.float .f32 x)) ∧ Below wr.heap.size wr V ∧ V.ownsRow wr.heap.size 2 1 v2 (o.length + 1) (o.map encN ++ [Value.int .i64 (k : Int)])) ⟨HS.out _ hbn, hbn, hown⟩ ?_
            clear hHeld hB hK5 hR3 hown hgrow hnil hbn hnn1
            rintro X ⟨hHeld, hB, hR6⟩
            refine wpAnyH_ready (rs := [16]) (by kernel_rfl) (by simp) ?_
            refine AllReadyH.cons rfl (fun K hK => ?_) AllReadyH.nil
            have hord : OrdAt X v2 (o ++ [k]) := ord_row (base := wr.heap.size) (n := o.length + 1) (by rw [List.map_append]; exact hR6) hnn2
            have hW0X := HBW.out.trans (hB.mono HBW.out.size)
            have hIH := HIH.out X v2 hord (srow_keep HSR.out hB) hW0X
            clear hR6 hord hnn2
            go_simp
            refine hIH.mono ?_
            rintro e W1 ⟨rfl, hs1, hg1⟩
            have hW01 := hW0X.grown hg1 hW0X.size (fun j e => by cases e; exact hbb)
            have hgr := grown_trans (grown_of_below hB (some b)) hg1
            refine hK.out _ _ (HS2.out _ hW01 _ hs1) (fun _ => ?_)
            clear hK K
            refine wpAnyH_done (by kernel_rfl) ?_ _
            refine abs_exit (fun V => Below W0.heap.size W0 V ∧ SRow V b W0.heap.size (.slice (some ⟨lg, lo, none⟩) zs.length cap) (stK zs zs.length d o st (k + 1)) ∧ wr.grownBy V (some b)) ⟨hW01, by rw [HSTK.out]; exact hs1, hgr⟩ ?_
            rintro V9 ⟨hx1, hx2, hx3⟩
            have HX2 := Lib.hid hx2
            clear hHeld hB hW0X hIH hs1 hg1 hW01 hgr hx2
            go_wp2
            go_roundw
            case rel => exact ⟨k + 1, by omega, by go_num, hx1, HX2.out, grown_trans HGR.out hx3⟩
            case measure => simp [intOf]; omega

      · obtain rfl : k = zs.length := by omega
        have z3 : decide (((zs.length : Nat) : Int) < (zs.length : Int)) = false := decide_eq_false (by omega)
        go_wp2
        go_end0
        exact ⟨rfl, HSR.out, HGR.out⟩

end Go.Proofs.Ytjpnbcfdnolcjab
