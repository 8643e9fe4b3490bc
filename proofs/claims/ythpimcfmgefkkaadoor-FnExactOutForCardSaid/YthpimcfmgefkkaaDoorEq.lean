/-
  Two arrays of numbers, two suns: when they are equal.
-/
import Derived.Test.YthpimcfmgefkkaaDoorSun
import Derived.Laws.StructEq
import Derived.WalkLawsBesides
namespace Go.Proofs.YthpimcfmgefkkaaDoor
open Go Go.RowKit

set_option maxRecDepth 100000 in
theorem size_i16 (w : World) : (sizeOf 25).run Tryd.prog w = .ok 1 w := by kernel_rfl

set_option maxRecDepth 100000 in
theorem agg_i16 (w : World) : (isAgg 25).run Tryd.prog w = .ok false w := by kernel_rfl

set_option maxRecDepth 100000 in
theorem agg_arr (w : World) : (isAgg 26).run Tryd.prog w = .ok true w := by kernel_rfl

set_option maxRecDepth 100000 in
theorem size_arr (w : World) : (sizeOf 26).run Tryd.prog w = .ok 24 w := by kernel_rfl

theorem part_i16 (xs : List Int) (i : Nat) (h : i < xs.length) (w : World) : (part 25 (i16s xs) i).run Tryd.prog w = .ok (.int .i16 (xs[i]?.getD 0)) w := by
  unfold part
  rw [Sem.run_bind, agg_i16]
  simp only [Result.andThen_ok, Bool.false_eq_true, if_false, i16s_get xs i h]
  rfl

theorem part_arr (cs : Array Value) (o : Nat) (w : World) : (part 26 cs o).run Tryd.prog w = .ok (.agg (cs.extract o (o + 24))) w := by
  unfold part
  rw [Sem.run_bind, agg_arr]
  simp only [Result.andThen_ok, if_true]
  rw [Sem.run_bind, size_arr]
  rfl

theorem eq_loop (d : Nat) (xs ys : List Int) (w : World) : ∀ (is : List Nat), (∀ i ∈ is, i < xs.length ∧ i < ys.length) →
    (forIn is ((none, ()) : Option Bool × Unit) (fun i _ => do
      if (!(← Op.equalIn (d + 1) 25 (← part 25 (i16s xs) (i * 1)) (← part 25 (i16s ys) (i * 1)))) = true then pure (ForInStep.done (some false, ()))
      else pure (ForInStep.yield (none, ())))).run Tryd.prog w = .ok (if is.all (fun i => xs[i]?.getD 0 == ys[i]?.getD 0) then (none, ()) else (some false, ())) w
  | [], _ => rfl
  | i :: is, h => by
    have hi := h i (by simp)
    have ih := eq_loop d xs ys w is (fun j hj => h j (by simp [hj]))
    rw [List.forIn_cons]
    simp only [Nat.mul_one] at ih ⊢
    simp only [Sem.run_bind, part_i16 xs i hi.1, part_i16 ys i hi.2, Result.andThen_ok, run_equalIn_int w d 25 .i16 .i16 _ _ Tryd.underlying25]
    cases hc : (xs[i]?.getD 0 == ys[i]?.getD 0)
    · simp [hc]
    · simp only [Bool.not_true, Bool.false_eq_true, if_false, Sem.run_pure, Result.andThen_ok, List.all_cons, hc, Bool.true_and]
      exact ih

theorem all_eq (xs ys : List Int) (n : Nat) (hx : xs.length = n) (hy : ys.length = n) : (List.range' 0 n).all (fun i => xs[i]?.getD 0 == ys[i]?.getD 0) = (xs == ys) := by
  rw [Bool.eq_iff_iff]
  simp only [List.all_eq_true, beq_iff_eq]
  constructor
  · intro h
    apply List.ext_getElem?
    intro i
    by_cases hi : i < n
    · have h1 := h i (by simp [List.mem_range']; omega)
      rw [List.getElem?_eq_getElem (by omega), List.getElem?_eq_getElem (by omega)] at h1 ⊢
      simpa using h1
    · rw [List.getElem?_eq_none (by omega), List.getElem?_eq_none (by omega)]
  · intro h i _
    rw [h]

theorem run_eq_arr (d : Nat) (xs ys : List Int) (hx : xs.length = 24) (hy : ys.length = 24) (w : World) :
    (Op.equalIn (d + 1 + 1) 26 (.agg (i16s xs)) (.agg (i16s ys))).run Tryd.prog w = .ok (xs == ys) w := by
  have hl := eq_loop d xs ys w (List.range' 0 24) (fun i hi => by simp [List.mem_range'] at hi; omega)
  rw [all_eq xs ys 24 hx hy] at hl
  rw [Op.equalIn.eq_def]
  simp only [Sem.run_bind, run_underlying Tryd.underlying26, Result.andThen_ok, size_i16]
  rw [Std.Legacy.Range.forIn_eq_forIn_range']
  have e : (Std.Legacy.Range.mk 0 24 1 (by decide)).size = 24 := by decide
  simp only [e]
  erw [hl]
  cases xs == ys <;> rfl


theorem run_eql_arr (xs ys : List Int) (hx : xs.length = 24) (hy : ys.length = 24) (w : World) :
    (Op.equalIn 10000 26 (.agg (i16s xs)) (.agg (i16s ys))).run Tryd.prog w = .ok (xs == ys) w := run_eq_arr 9998 xs ys hx hy w

set_option maxRecDepth 100000 in
theorem fields_sun : Tryd.prog.underlying 33 = some (.struct (Tryd.prog.fieldsOf 33)) := by kernel_rfl

set_option maxRecDepth 100000 in
theorem stood_sun : Tryd.prog.stoodInHeld 33 = false := by kernel_rfl

theorem fold_and (a b : Bool) (w : World) : (if (!a) = true then Sem.run Tryd.prog (pure false) w else ((Sem.run Tryd.prog (pure b) w).andThen fun r w' => Sem.run Tryd.prog (if (!r) = true then pure false else pure true) w')) = .ok (a && b) w := by
  cases a <;> cases b <;> rfl

set_option maxRecDepth 100000 in
theorem run_eql_sun (h1 t1 h2 t2 : List Int) (a1 : h1.length = 24) (b1 : t1.length = 24) (a2 : h2.length = 24) (b2 : t2.length = 24) (w : World) :
    (Op.equalIn 10000 33 (.agg (sunC h1 t1)) (.agg (sunC h2 t2))).run Tryd.prog w = .ok (h1 == h2 && t1 == t2) w := by
  rw [run_equalIn_agg w 9999 33 _ _ fields_sun stood_sun]
  have hf : (Tryd.prog.fieldsOf 33).toList.map (fun f => (f.name, f.type, f.offset)) = [("Height", 26, 0), ("Turns", 26, 24)] := by kernel_rfl
  generalize (Tryd.prog.fieldsOf 33).toList = fs at hf
  have hlen : fs.length = 2 := by simpa using congrArg List.length hf
  match fs, hlen, hf with
  | [f0, f1], _, hf =>
    simp only [List.map_cons, List.map_nil, List.cons.injEq, Prod.mk.injEq, and_true] at hf
    obtain ⟨⟨n0, ty0, o0⟩, n1, ty1, o1⟩ := hf
    simp only [Op.eqFields, n0, n1, ty0, ty1, o0, o1]
    rw [if_pos (by decide), if_pos (by decide)]
    simp only [Sem.run_bind, part_arr, Result.andThen_ok, sunC_fst _ _ a1, sunC_fst _ _ a2, sunC_snd _ _ a1 b1, sunC_snd _ _ a2 b2, run_eq_arr 9997 _ _ a1 a2, Sem.run_ite, run_eq_arr 9997 _ _ b1 b2]
    cases h1 == h2 <;> cases t1 == t2 <;> rfl

end Go.Proofs.YthpimcfmgefkkaaDoor
