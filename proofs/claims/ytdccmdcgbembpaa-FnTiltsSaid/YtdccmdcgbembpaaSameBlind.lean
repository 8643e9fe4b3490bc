/-
  For every two blinds, valid or not: whether they are the same is what the model says. No conditions.
-/
import Derived.Test.YtdccmdcgbembpaaBlind
import Derived.Test.YtdccmdcgbembpaaLaw
import Derived.Test.YtdccmdcgbembpaaSgn
import Derived.Laws.StructEq
import Derived.StillTailTactics
import Derived.Test.YtdccmdcgbembpaaTake
namespace Go.Proofs.Ytdccmdcgbembpaa
open Go.ChangeShapes Go.WideShapes Go.ChangeAt Go.RowKit Go.Deep Go.Joins

theorem run_bits2 (a : Nat) (w : World) : (callFunc 61 #[.float .f32 a]).run Try.prog w = .ok (.value (.int .u32 a)) w := by kernel_rfl

/-- The bits of a number, one pattern for every NaN. -/
def nbits (a : Nat) : Nat := if FloatKind.f32.format.order a a = some .eq then a else 2143289344
theorem ret_bool {a b : Bool} (h : a = b) : Ending.returned (.bool a) = .returned (.bool b) := by rw [h]
theorem cast_beq (a b : Nat) : ((a : Int) == (b : Int)) = (a == b) := by
  rw [Bool.eq_iff_iff]; simp only [beq_iff_eq]; omega
def sameB (a b : Nat) : Bool := nbits a == nbits b

theorem order_self2 (a : Nat) : FloatKind.f32.format.order a a = some .eq ∨ FloatKind.f32.format.order a a = none := by
  show (Ieee.single.read a).order (Ieee.single.read a) = some .eq ∨ _
  generalize hd : Ieee.single.read a = d
  have e : FloatKind.f32.format.order a a = d.order d := by show (Ieee.single.read a).order (Ieee.single.read a) = _; rw [hd]
  rw [e]
  cases d with
  | number s m e => left; simp [Ieee.Datum.order]
  | infinity s => left; simp [Ieee.Datum.order]
  | nan s f => right; rfl

set_option maxHeartbeats 400000 in
theorem numberBits_any (a : Nat) (w : World) :
    Calls Try.prog 53 #[.float .f32 a] w fun e w' => e = .returned (.int .u32 (nbits a : Int)) ∧ w = w' := by
  have hb := run_bits2 a
  unfold nbits
  rcases order_self2 a with h | h
  · rw [if_pos h]
    go_enter Try.func53, Try.ntmps53
    go_wp2
    go_ret
    exact ⟨rfl, rfl⟩
  · rw [if_neg (by rw [h]; intro h; cases h)]
    go_enter Try.func53, Try.ntmps53
    go_wp2
    go_ret
    exact ⟨rfl, rfl⟩

theorem nbits_eq {a : Nat} (h : FloatKind.f32.format.order a a = some .eq) : nbits a = a := if_pos h
theorem nbits_nan {a : Nat} (h : FloatKind.f32.format.order a a = none) : nbits a = 2143289344 := if_neg (by rw [h]; intro h; cases h)
theorem not_nan2 {a : Nat} (h : FloatKind.f32.format.order a a = some .eq) : a ≠ 2143289344 := by
  have hn : FloatKind.f32.format.order 2143289344 2143289344 = none := by decide +kernel
  intro e
  rw [e, hn] at h; cases h

set_option maxHeartbeats 1000000 in
theorem l01Same_any (a b : Nat) (w : World) :
    Calls Try.prog 43 #[.float .f32 a, .float .f32 b] w fun e w' => e = .returned (.bool (sameB a b)) ∧ w = w' := by
  have ra := run_bits2 a
  have rb := run_bits2 b
  unfold sameB
  rcases order_self2 a with ha | ha <;> rcases order_self2 b with hb | hb
  · rw [nbits_eq ha, nbits_eq hb]
    go_enter Try.func43, Try.ntmps43
    go_wp2
    go_ret
    exact ⟨ret_bool (cast_beq a b), rfl⟩
  · rw [nbits_eq ha, nbits_nan hb, beq_false_of_ne (not_nan2 ha)]
    go_enter Try.func43, Try.ntmps43
    go_wp2
    go_ret
    exact ⟨rfl, rfl⟩
  · rw [nbits_nan ha, nbits_eq hb, beq_false_of_ne (Ne.symm (not_nan2 hb))]
    go_enter Try.func43, Try.ntmps43
    go_wp2
    go_ret
    exact ⟨rfl, rfl⟩
  · rw [nbits_nan ha, nbits_nan hb]
    go_enter Try.func43, Try.ntmps43
    go_wp2
    go_ret
    exact ⟨rfl, rfl⟩

def sameBl (n : Int) (wd gp : Nat) (t : Int) (sh : Nat) (n' : Int) (wd' gp' : Nat) (t' : Int) (sh' : Nat) : Bool :=
  n == n' && sameB wd wd' && sameB gp gp' && t == t' && sameB sh sh'

/-- What tells a blind. -/
def bitsC (n : Int) (wd gp : Nat) (t : Int) (sh : Nat) : Array Value := #[.int .i8 n, .int .u32 (nbits wd : Int), .int .u32 (nbits gp : Int), .int .i16 t, .int .u32 (nbits sh : Int)]

theorem nb_still (a : Nat) (w : World) : Calls Try.prog 53 #[.float .f32 a] w fun e w' => e = .returned (.int .u32 (nbits a : Int)) ∧ w' = w := (numberBits_any a w).mono fun _ _ ⟨h, k⟩ => ⟨h, k.symm⟩
theorem laid_all2 (cs vs : Array Value) (h : cs.size = vs.size) : laid cs vs 0 = vs := by
  apply Array.ext'
  simp [laid]
  rw [← h]; simp
theorem bits_one (n : Int) (wd gp : Nat) (t : Int) (sh : Nat) : ∀ v ∈ bitsC n wd gp t sh, v.oneCell' = true := by
  intro v hv
  simp only [bitsC, List.mem_toArray, List.mem_cons, List.not_mem_nil, or_false] at hv
  rcases hv with rfl | rfl | rfl | rfl | rfl <;> rfl

set_option maxRecDepth 100000 in
set_option maxHeartbeats 1000000 in
theorem bitsOfBlind_any (n : Int) (wd gp : Nat) (t : Int) (sh : Nat) (w : World) :
    Calls Try.prog 30 #[.agg (blindC n wd gp t sh)] w fun e w' => e = .returned (.agg (bitsC n wd gp t sh)) ∧ Below w.heap.size w w' := by
  unfold blindC bitsC
  go_enter Try.func30, Try.ntmps30
  go_wp2
  refine abs_world (fun W => Below w.heap.size w W ∧ w.heap.size + 2 ≤ W.heap.size ∧ W.heap[w.heap.size]? = some (.cells (blindC n wd gp t sh) 28 (0, 0)) ∧ W.heap[w.heap.size + 1]? = some (.cells #[.int .i8 0, .int .u32 0, .int .u32 0, .int .i16 0, .int .u32 0] 61 (0, 0))) ⟨by (repeat' first | exact Below.refl _ _ | assumption | refine Below.alloc ?_ (by first | omega | (simp; done) | (simp; omega)) _ | refine Below.setCell ?_ (by first | omega | (simp; done) | (simp; omega)) _ | refine Below.drew ?_), by simp, (heap_alloc2_old _ _ _), (heap_alloc2_new _ _ _)⟩ ?_
  rintro W ⟨hb, hs, h0, h1⟩
  unfold blindC at h0
  have c0 : W.cell? ⟨w.heap.size, 0, none⟩ = some (.int .i8 n) := by rw [cell_of_row W _ _ _ _ _ h0]; rfl
  have c1 : W.cell? ⟨w.heap.size, 1, none⟩ = some (.float .f32 wd) := by rw [cell_of_row W _ _ _ _ _ h0]; rfl
  have c2 : W.cell? ⟨w.heap.size, 2, none⟩ = some (.float .f32 gp) := by rw [cell_of_row W _ _ _ _ _ h0]; rfl
  have c3 : W.cell? ⟨w.heap.size, 3, none⟩ = some (.int .i16 t) := by rw [cell_of_row W _ _ _ _ _ h0]; rfl
  have c4 : W.cell? ⟨w.heap.size, 4, none⟩ = some (.float .f32 sh) := by rw [cell_of_row W _ _ _ _ _ h0]; rfl
  have H1 := Lib.hid h1
  clear h0 h1
  refine wp_region_still_tail 14 (by kernel_rfl) (by kernel_rfl) ?_
  simp only [List.take_succ_cons, List.take_zero, List.drop_succ_cons, List.drop_zero]
  iterate 4 still_step
  still_call (nb_still _ _)
  iterate 2 still_step
  still_call (nb_still _ _)
  iterate 4 still_step
  still_call (nb_still _ _)
  iterate 1 still_step
  refine wpStill_nil ?_
  have H2 : W.drew.heap[w.heap.size + 1]? = some (.cells #[.int .i8 0, .int .u32 0, .int .u32 0, .int .i16 0, .int .u32 0] 61 (0, 0)) := H1.out
  have hb2 : Below w.heap.size w W.drew := hb.drew
  clear H1 hb c0 c1 c2 c3 c4
  change wpList _ _ _ _ _ W.drew
  generalize W.drew = W2 at H2 hb2 ⊢
  refine wpList_store_part rfl 61 _ _ rfl (w.heap.size + 1) 0 (bitsC n wd gp t sh) rfl rfl 61 _ H2 (by kernel_rfl) (Nat.le_refl _) (bits_one _ _ _ _ _) ?_
  rw [laid_all2 (#[.int .i8 0, .int .u32 0, .int .u32 0, .int .i16 0, .int .u32 0]) (bitsC n wd gp t sh) rfl]
  go_wp2
  exact bodyPost_ret (v := .agg (bitsC n wd gp t sh)) (results_cell_row rfl _ _ _ _ _ _ _ rfl (setRow_heap _ _ _ _ _ _ H2) Try.underlying61 rfl (by kernel_rfl)) rfl ⟨rfl, below_setRow hb2 (by omega) _⟩

theorem run_eql_bits (n : Int) (wd gp : Nat) (t : Int) (sh : Nat) (n' : Int) (wd' gp' : Nat) (t' : Int) (sh' : Nat) (w : World) :
    (Op.equalIn 10000 61 (.agg (bitsC n wd gp t sh)) (.agg (bitsC n' wd' gp' t' sh'))).run Try.prog w = .ok (sameBl n wd gp t sh n' wd' gp' t' sh') w := by
  rw [run_equalIn_agg w 9999 61 _ _ (by kernel_rfl) (by kernel_rfl)]
  have hf : (Try.prog.fieldsOf 61).toList.map (fun f => (f.name, f.type, f.offset)) = [("slats", 24, 0), ("wide", 59, 1), ("gap", 59, 2), ("tilt", 26, 3), ("shine", 59, 4)] := by kernel_rfl
  generalize (Try.prog.fieldsOf 61).toList = fs at hf
  have hlen : fs.length = 5 := by simpa using congrArg List.length hf
  match fs, hlen, hf with
  | [f0, f1, f2, f3, f4], _, hf =>
    simp only [List.map_cons, List.map_nil, List.cons.injEq, Prod.mk.injEq, and_true] at hf
    obtain ⟨⟨m0, y0, o0⟩, ⟨m1, y1, o1⟩, ⟨m2, y2, o2⟩, ⟨m3, y3, o3⟩, m4, y4, o4⟩ := hf
    have pi : ∀ (T : TypeId) (k : IntKind) (z : Int) (cs : Array Value) (o : Nat), cs[o]? = some (.int k z) → Try.prog.underlying T = some (.int k) → ∀ w, (part T cs o).run Try.prog w = .ok (.int k z) w := by
      intro T k z cs o h hu w
      unfold part
      have ha : (isAgg T).run Try.prog w = .ok false w := by
        unfold isAgg
        rw [Sem.run_bind, run_underlying hu w]; rfl
      rw [Sem.run_bind, ha]
      simp only [Result.andThen_ok, Bool.false_eq_true, if_false, h]
      rfl
    simp only [Op.eqFields, m0, m1, m2, m3, m4, y0, y1, y2, y3, y4, o0, o1, o2, o3, o4]
    repeat rw [if_pos (by decide)]
    have step : ∀ (T : TypeId) (k : IntKind) (x y : Int) (cs ds : Array Value) (o : Nat) (m : Sem Bool), cs[o]? = some (.int k x) → ds[o]? = some (.int k y) → Try.prog.underlying T = some (.int k) →
        (do
          let a ← part T cs o
          let b ← part T ds o
          let r ← Op.equalIn 9999 T a b
          if (!r) = true then pure false else m : Sem Bool).run Try.prog w = if x == y then m.run Try.prog w else .ok false w := by
      intro T k x y cs ds o m hx hy hu
      simp only [Sem.run_bind, pi T k x cs o hx hu, pi T k y ds o hy hu, Result.andThen_ok, run_equalIn_int w 9998 T k k x y hu]
      cases x == y <;> rfl
    rw [step 24 .i8 n n' _ _ 0 _ rfl rfl Try.underlying24, step 59 .u32 _ _ _ _ 1 _ rfl rfl Try.underlying59, step 59 .u32 _ _ _ _ 2 _ rfl rfl Try.underlying59, step 26 .i16 t t' _ _ 3 _ rfl rfl Try.underlying26, step 59 .u32 _ _ _ _ 4 _ rfl rfl Try.underlying59]
    simp only [cast_beq]
    unfold sameBl sameB
    cases n == n' <;> cases nbits wd == nbits wd' <;> cases nbits gp == nbits gp' <;> cases t == t' <;> cases nbits sh == nbits sh' <;> rfl

end Go.Proofs.Ytdccmdcgbembpaa
