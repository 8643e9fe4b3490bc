/-
  Sums of light by what is seen of the sun, in a map.
-/
import Derived.Test.YtmniodfdoidffaaBfB
import Derived.Maps.Own
import Derived.Maps.OwnSet
import Derived.DeepKeys4
namespace Go.Proofs.Ytmniodfdoidffaa
open Go.RowKit Go.Shelf
open Go.WideElems (Fit rd rg pl)
open Go.Maps (Keyed)
open Go.ChangeMaps (putKey notKey)

theorem laidB : laidOutB Try.prog = true := by kernel_rfl

theorem rowSun : (59 : TypeId) < Try.prog.types.size := of_decide_eq_true (by kernel_rfl)

theorem wideSun : (match Try.prog.underlying 59 with | some (.array _ _) | some (.struct _) => true | _ => false) = true := by rw [Try.underlying59]

set_option maxRecDepth 100000 in
theorem keyedSun : Keyed Try.prog 59 := Keyed.of_law (deep_law_laid laidB (m := 3) (by omega) rowSun (by kernel_rfl) wideSun)

theorem mapM_some {α β : Type} (g : α → Option β) (h : α → β) : ∀ l : List α, (∀ x ∈ l, g x = some (h x)) → l.mapM g = some (l.map h)
  | [], _ => rfl
  | x :: r, e => by
    rw [List.mapM_cons, e x (List.mem_cons_self ..), mapM_some g h r (fun y hy => e y (List.mem_cons_of_mem _ hy))]
    rfl

theorem lits16 (d : Nat) {x : Int} (h0 : -32768 ≤ x) (h1 : x ≤ 32767) : Try.prog.keyLits (d + 1) 26 [.int .i16 x] = some [.int .i16 x] := by
  have hw : (Lit.int .i16 x).wf = true := by simp [Lit.wf, IntKind.min, IntKind.max, IntKind.signed, IntKind.bits]; omega
  unfold Program.keyLits
  rw [Try.underlying26]
  simp [hw]

theorem drop_take_one (xs : List Value) (i : Nat) (h : i < xs.length) : (xs.drop i).take 1 = [xs[i]] := by
  rw [List.drop_eq_getElem_cons h]
  rfl

theorem lits_arr (d : Nat) {a : List Int} (ha : a.length = 24) (hr : ∀ x ∈ a, -32768 ≤ x ∧ x ≤ 32767) : ∃ ls, Try.prog.keyLits (d + 2) 55 (a.map (Value.int .i16)) = some ls := by
  have hc : Try.prog.cellsOf 55 = 24 := by kernel_rfl
  have hc1 : Try.prog.cellsOf 26 = 1 := by kernel_rfl
  have hm : (List.range 24).mapM (fun i => Try.prog.keyLits (d + 1) 26 (((a.map (Value.int .i16)).drop (i * Try.prog.cellsOf 26)).take (Try.prog.cellsOf 26))) = some ((List.range 24).map (fun i => [Lit.int .i16 (a[i]?.getD 0)])) := by
    refine mapM_some _ _ _ fun i hi => ?_
    have hi' : i < a.length := by rw [ha]; exact List.mem_range.1 hi
    rw [hc1, Nat.mul_one, drop_take_one _ _ (by simpa using hi'), List.getElem_map]
    have := hr _ (List.getElem_mem hi')
    rw [List.getElem?_eq_getElem hi']
    exact lits16 d this.1 this.2
  refine ⟨((List.range 24).map (fun i => [Lit.int .i16 (a[i]?.getD 0)])).flatten, ?_⟩
  unfold Program.keyLits
  rw [Try.underlying55]
  simp only []
  rw [if_pos (by rw [hc, List.length_map, ha]), hm]
  rfl

theorem sunC_list (a b : List Int) : (sunC a b).toList = a.map (Value.int .i16) ++ b.map (Value.int .i16) := by simp [sunC, i16s]

theorem key_sun {a b : List Int} (ha : a.length = 24) (hb : b.length = 24) (hr : ∀ x ∈ a, -32768 ≤ x ∧ x ≤ 32767) (hs : ∀ x ∈ b, -32768 ≤ x ∧ x ≤ 32767) : ∃ kl, keyOf Try.prog 59 (.agg (sunC a b)) = some kl := by
  have hk : Try.prog.keyType 59 = true := by kernel_rfl
  have hc : Try.prog.cellsOf 59 = 48 := by kernel_rfl
  have hc2 : Try.prog.cellsOf 55 = 24 := by kernel_rfl
  have hf : (Value.agg (sunC a b)).formed Try.prog 59 = true := by
    simp [Value.formed, Try.underlying59, hc, sunC_size _ _ ha hb]
  obtain ⟨n, hn⟩ : ∃ n, Try.prog.types.size + 1 = n + 3 := ⟨Try.prog.types.size - 2, by have : 2 ≤ Try.prog.types.size := of_decide_eq_true (by kernel_rfl); omega⟩
  obtain ⟨l1, h1⟩ := lits_arr n ha hr
  obtain ⟨l2, h2⟩ := lits_arr n hb hs
  have hl : ∃ ls, Try.prog.keyLits (n + 3) 59 (sunC a b).toList = some ls := by
    rw [sunC_list]
    unfold Program.keyLits
    rw [Try.underlying59]
    simp only []
    rw [if_pos ⟨by rw [hc, List.length_append, List.length_map, List.length_map, ha, hb], by simp⟩]
    have e1 : (((a.map (Value.int .i16) ++ b.map (Value.int .i16)).drop 0).take (Try.prog.cellsOf 55)) = a.map (Value.int .i16) := by
      rw [hc2, List.drop_zero, List.take_append_of_le_length (by simp [ha]), List.take_of_length_le (by simp [ha])]
    have e2 : (((a.map (Value.int .i16) ++ b.map (Value.int .i16)).drop 24).take (Try.prog.cellsOf 55)) = b.map (Value.int .i16) := by
      rw [hc2, List.drop_append_of_le_length (by simp [ha]), List.drop_of_length_le (by simp [ha]), List.nil_append, List.take_of_length_le (by simp [hb])]
    refine ⟨[l1, l2].flatten, ?_⟩
    simp only [List.mapM_cons, List.mapM_nil, e1, e2, h1, h2]
    rfl
  obtain ⟨ls, hls⟩ := hl
  refine ⟨.string (keyBytes ls), ?_⟩
  unfold keyOf
  rw [Try.underlying59]
  simp only []
  rw [if_pos (by rw [hk, hf]; rfl)]
  show (Try.prog.keyLits (Try.prog.types.size + 1) 59 (sunC a b).toList).map _ = _
  rw [hn, hls]
  rfl

theorem see_key {hs ts : List Int} (hh : hs.length = 24) (h : okB hs ts = true) (f : Nat) : ∃ kl, keyOf Try.prog 59 (Value.agg (sunC (seeHL hs ts (f : Int)) (seeTL hs ts (f : Int)))) = some kl := by
  refine key_sun (seeHL_len _ _ _) (seeTL_len _ _ _) (fun x hx => ?_) (fun x hx => ?_)
  · obtain ⟨k, hk, rfl⟩ := List.mem_map.1 hx
    have := ok_h hh h (List.mem_range.1 hk)
    unfold seeH
    split <;> omega
  · obtain ⟨k, hk, rfl⟩ := List.mem_map.1 hx
    have h0 := angB_lo (ts[k]?.getD 0 - (f : Int))
    have h1 := angB_hi (ts[k]?.getD 0 - (f : Int))
    unfold seeT
    split <;> omega

def RF (v : Value) : Option (DataW Unit × List MemPlace) :=
  match v with
  | .float .f32 b => some (.lit (.float .f32 b), [])
  | _ => none

/-- The map: each sum is that of its key. -/
def SumsAt (hs ts : List Int) (W : World) (bm n : Nat) : Prop :=
  ∃ es clock, W.heap[bm]? = some (.map es clock) ∧ Fit Try.prog 59 RF es clock ∧ es.size ≤ n ∧ ∀ x ∈ es.toList, ∃ f : Nat, x.key = (Value.agg (sunC (seeHL hs ts (f : Int)) (seeTL hs ts (f : Int)))) ∧ x.val = .float .f32 (gF hs ts f)

theorem sums_made (hs ts : List Int) (w : World) : SumsAt hs ts (w.alloc (.map #[] 0)) w.heap.size 0 :=
  ⟨#[], 0, (MapKept.heap_alloc w _).1, ⟨by simp, MapKept.stamped_empty 0, by simp⟩, Nat.le_refl _, by simp⟩

theorem sums_below {hs ts : List Int} {W W' : World} {bm n : Nat} (h : SumsAt hs ts W bm n) (hb : Below W.heap.size W W') : SumsAt hs ts W' bm n := by
  obtain ⟨es, clock, h1, h2⟩ := h
  exact ⟨es, clock, (hb.block bm (Array.getElem?_eq_some_iff.1 h1).1).trans h1, h2⟩

theorem sums_row {hs ts : List Int} {W : World} {bm n b : Nat} {cs ds : Array Value} {T : TypeId} (h : SumsAt hs ts W bm n) (hr : W.heap[b]? = some (.cells ds T (0, 0))) : SumsAt hs ts (W.setRow b cs) bm n := by
  obtain ⟨es, clock, h1, h2⟩ := h
  refine ⟨es, clock, (setRow_other _ _ _ _ ?_).trans h1, h2⟩
  intro e
  rw [e] at h1
  rw [hr] at h1
  cases h1

theorem sums_mono {hs ts : List Int} {W : World} {bm n m : Nat} (h : SumsAt hs ts W bm n) (hn : n ≤ m) : SumsAt hs ts W bm m := by
  obtain ⟨es, clock, h1, h2, h3, h4⟩ := h
  exact ⟨es, clock, h1, h2, Nat.le_trans h3 hn, h4⟩

theorem agg_inj {a b : Array Value} (h : Value.agg a = Value.agg b) : a = b := by injection h

theorem sunC_inj {a b c d : List Int} (ha : a.length = 24) (hc : c.length = 24) (h : sunC a b = sunC c d) : a = c ∧ b = d := by
  have h1 : (sunC a b).toList = (sunC c d).toList := by rw [h]
  rw [sunC_list, sunC_list] at h1
  obtain ⟨e1, e2⟩ := List.append_inj h1 (by simp [ha, hc])
  have hi : ∀ x y : Int, Value.int .i16 x = Value.int .i16 y → x = y := fun x y e => by injection e
  exact ⟨(List.map_inj_right hi).1 e1, (List.map_inj_right hi).1 e2⟩

set_option maxRecDepth 100000 in
theorem sums_look {hs ts : List Int} (hh : hs.length = 24) (hok : okB hs ts = true) {W : World} {bm n : Nat} (h : SumsAt hs ts W bm n) (f : Nat) :
    (Instr.lookup 110 (.map (some bm)) (Value.agg (sunC (seeHL hs ts (f : Int)) (seeTL hs ts (f : Int)))) true).run Try.prog W = .ok (.tuple #[.float .f32 0, .bool false]) W ∨
    (Instr.lookup 110 (.map (some bm)) (Value.agg (sunC (seeHL hs ts (f : Int)) (seeTL hs ts (f : Int)))) true).run Try.prog W = .ok (.tuple #[.float .f32 (gF hs ts f), .bool true]) W := by
  obtain ⟨kl, hkey⟩ := see_key hh hok f
  obtain ⟨es, clock, hb, F, _, hall⟩ := h
  have hz : (zeroValue 25).run Try.prog W = .ok (.float .f32 0) W := by kernel_rfl
  have hday : ∀ f' : Nat, (Value.agg (sunC (seeHL hs ts (f' : Int)) (seeTL hs ts (f' : Int)))) = (Value.agg (sunC (seeHL hs ts (f : Int)) (seeTL hs ts (f : Int)))) → gF hs ts f' = gF hs ts f := fun f' hk' => by
    obtain ⟨e1, e2⟩ := sunC_inj (seeHL_len _ _ _) (seeHL_len _ _ _) (agg_inj hk')
    unfold gF
    rw [← see_day hh hok, ← see_day hh hok (f : Int), e1, e2]
  generalize (Value.agg (sunC (seeHL hs ts (f : Int)) (seeTL hs ts (f : Int)))) = key at *
  generalize gF hs ts f = v at *
  rcases Maps.fit_look true keyedSun Try.underlying110 hz hb F hkey with ⟨hrun, _, _⟩ | ⟨e0, y, hmem, hk, hrun, _, _⟩
  · left
    rw [if_pos rfl] at hrun
    exact hrun
  · obtain ⟨f', hk', hv⟩ := hall e0 hmem
    have e := hday f' (hk'.symm.trans hk)
    rw [if_pos rfl, hv, e] at hrun
    right
    exact hrun

theorem sums_put {hs ts : List Int} (hh : hs.length = 24) (hok : okB hs ts = true) {W : World} {bm n : Nat} (h : SumsAt hs ts W bm n) (hn : n ≤ 256) (f : Nat) :
    ∃ w', (Instr.mapUpdate 110 (.map (some bm)) (Value.agg (sunC (seeHL hs ts (f : Int)) (seeTL hs ts (f : Int)))) (.float .f32 (gF hs ts f))).run Try.prog W = .ok () w' ∧ SumsAt hs ts w' bm (n + 1) ∧ W.grownBy w' (some bm) := by
  obtain ⟨kl, hkey⟩ := see_key hh hok f
  obtain ⟨es, clock, hb, F, hs1, hall⟩ := h
  obtain ⟨es', clock', hrun, F', hput, _, _, hwho⟩ := Maps.fit_store (R' := RF) keyedSun Try.underlying110 hb F (by unfold maxLen; omega) (fun _ _ _ _ hz => hz) hkey (val := .float .f32 (gF hs ts f)) (yv := (.lit (.float .f32 (gF hs ts f)), [])) rfl
  refine ⟨_, hrun, ⟨es', clock', ChangeMaps.heap_setBlock_same hb _, F', ?_, fun x hx => ?_⟩, ⟨rfl, rfl, rfl, by simp [ChangeMaps.setBlock], fun i _ hi => ChangeMaps.heap_setBlock_other hb _ (fun e => hi (by rw [e]))⟩⟩
  · have e1 : es'.size = ((es'.toList.map (rg Try.prog 59 RF)).foldr DataW.insert []).length := by rw [length_sorted]; simp
    rw [e1, hput]
    unfold putKey
    rw [length_insert]
    have e2 := List.length_filter_le (notKey kl) ((es.toList.map (rg Try.prog 59 RF)).foldr DataW.insert [])
    rw [length_sorted] at e2
    simp at e2
    omega
  · rcases hwho x hx with ⟨h1, _⟩ | ⟨h1, h2⟩
    · exact hall x h1
    · exact ⟨f, h1, h2⟩

end Go.Proofs.Ytmniodfdoidffaa
