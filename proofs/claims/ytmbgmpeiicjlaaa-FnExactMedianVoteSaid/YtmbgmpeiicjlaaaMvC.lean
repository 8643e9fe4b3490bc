/-
  sort.stable_func and sort.SliceStable over a ballot of at most 12 votes.

-/
import Derived.Test.YtmbgmpeiicjlaaaMvB

namespace Go.Proofs.Ytmbgmpeiicjlaaa

open Go.RowKit Go.Lib Go.Sort Go.Shelf

set_option maxRecDepth 100000 in
set_option maxHeartbeats 4000000 in
theorem mv_stable (g c : Nat) (d : Array Nat) (sf : Nat) (sb : Array Value) (hsw : 2 ≤ d.size → SwapSwaps Try.prog sf sb mvE g 0 d.size) (w : World) (hH : Holds mvE w g 0 d) (hblk : g < w.heap.size) (h1 : 1 ≤ d.size) (h12 : d.size ≤ 12) :
    Calls Try.prog 22 #[.agg #[.func (.func 13) #[.slice (some ⟨g, 0, none⟩) d.size c] #[], .func (.func sf) #[] sb], .int .i64 (d.size : Int)] w fun e w' => e = .returned (.tuple #[]) ∧ ∃ q os, w' = grow (putRow mvE (Sort.ahead w q) g 0 (Sort.insertionSort mvLt d 0 d.size)) os := by
  have hH1 : Holds mvE (w.alloc (.cells #[.func (.func 13) #[.slice (some ⟨g, 0, none⟩) d.size c] #[], .func (.func sf) #[] sb] 47)) g 0 d := by rw [alloc_eq_grow]; exact holds_grow mvE w _ g 0 d hblk hH
  have hc := Lib.hid (mv_ins g c d sf sb hsw (w.alloc (.cells #[.func (.func 13) #[.slice (some ⟨g, 0, none⟩) d.size c] #[], .func (.func sf) #[] sb] 47)) hH1 (by simp; omega) h1 (by omega))
  have z1 : decide ((20 : Int) ≤ (d.size : Int)) = false := decide_eq_false (by omega)
  have z2 : decide ((20 : Int) < (d.size : Int)) = false := decide_eq_false (by omega)
  clear hH hH1 hsw
  go_enter Try.func22, Try.ntmps22
  go_wp2
  refine wp_loop_rounds 1 ?_
  rw [rounds_succ]
  go_wp2_with (go_at_call 34; refine hc.out.mono ?_; rintro e w1 ⟨rfl, q, rfl⟩)
  refine wp_loop_rounds 1 ?_
  rw [rounds_succ]
  go_wp2
  all_goals first | (exfalso; omega) | (go_end0; exact ⟨rfl, q, _, by rw [alloc_eq_grow, alloc_eq_grow, grow_grow, ahead_grow, putRow_grow mvE (Sort.ahead w q) _ g 0 _ (by show g < w.heap.size; exact hblk)]⟩)

set_option maxRecDepth 100000 in
set_option maxHeartbeats 4000000 in
theorem mv_sliceStable (g c : Nat) (d : Array Nat) (w : World) (hH : Holds mvE w g 0 d) (hblk : g < w.heap.size) (h1 : 1 ≤ d.size) (h12 : d.size ≤ 12) :
    Calls Try.prog 12 #[.iface 31 (.slice (some ⟨g, 0, none⟩) d.size c), .func (.func 13) #[.slice (some ⟨g, 0, none⟩) d.size c] #[]] w fun e w' => e = .returned (.tuple #[]) ∧ ∃ q os, w' = grow (putRow mvE (Sort.ahead w q) g 0 (Sort.insertionSort mvLt d 0 d.size)) os := by
  obtain ⟨sf, sb, hsw, hsp⟩ : ∃ (sf : Nat) (sb : Array Value), (2 ≤ d.size → SwapSwaps Try.prog sf sb mvE g 0 d.size) ∧ ∀ w, (Extern.ReflectliteSwapper.swapper "internal/reflectlite" (Extern.ReflectliteValue.valueError "Swapper") #[.iface 31 (.slice (some ⟨g, 0, none⟩) d.size c)]).run Try.prog w = .ok (.func (.func sf) #[] sb) w := by
    by_cases h2 : 2 ≤ d.size
    · obtain ⟨k, hk⟩ : ∃ k, d.size = k + 2 := ⟨d.size - 2, by omega⟩
      rw [hk]
      exact ⟨_, _, fun _ => mv_swaps g (k + 2) c, fun w => mv_swapper2 _ k c w⟩
    · have hk : d.size = 1 := by omega
      rw [hk]
      exact ⟨_, _, fun h => absurd h (by omega), fun w => mv_swapper1 _ c w⟩
  have hv := fun w => mv_valueOf (some ⟨g, 0, none⟩) d.size c w
  have hl := fun a w ha => mv_len a (some ⟨g, 0, none⟩) d.size c w ha
  obtain ⟨gNV, hgs⟩ : ∃ n : Nat, Try.prog.globals.size = n := ⟨_, rfl⟩
  rw [hgs] at hv hl
  have hp := Lib.hid (fun W hH hb => mv_stable g c d sf sb hsw W hH hb h1 h12)
  have HH := Lib.hid hH
  clear hH hsw
  go_enter Try.func12, Try.ntmps12
  go_wp2
  rw [run_callFunc_extern Try.func20 (by kernel_rfl) (by kernel_rfl) (by kernel_rfl) (e := fun args => Extern.ReflectliteValue.unpack (args.getD 0 (.tuple #[]))) (by kernel_rfl),
    show Sem.run Try.prog ((fun args : Array Value => Extern.ReflectliteValue.unpack (args.getD 0 (.tuple #[]))) #[.iface 31 (.slice (some ⟨g, 0, none⟩) d.size c)]) w = _ from hv w]
  simp only [Result.andThen]
  rw [Oper.upon_value]
  go_wp2
  rw [run_callFunc_extern Try.func21 (by kernel_rfl) (by kernel_rfl) (by kernel_rfl) (e := Extern.ReflectliteSwapper.swapper "internal/reflectlite" (Extern.ReflectliteValue.valueError "Swapper")) (by kernel_rfl), hsp]
  simp only [Result.andThen]
  rw [Oper.upon_value]
  go_wp2
  rw [run_callFunc_extern Try.func23 (by kernel_rfl) (by kernel_rfl) (by kernel_rfl) (e := Extern.ReflectliteValue.method (Extern.ReflectliteValue.valueError "reflectlite.Value.Len" 0) Extern.ReflectliteValue.len) (by kernel_rfl),
    hl _ _ (by simp)]
  simp only [Result.andThen]
  rw [Oper.upon_value]
  go_wp2_with (go_at_call 22; refine (hp.out _ (by rw [alloc_eq_grow, alloc_eq_grow, grow_grow]; exact holds_grow mvE w _ g 0 d hblk HH.out) (by simp; omega)).mono ?_; rintro e w' ⟨rfl, q, os, rfl⟩)
  go_end0
  exact ⟨rfl, q, _, by rw [alloc_eq_grow, alloc_eq_grow, grow_grow, ahead_grow, putRow_grow mvE (Sort.ahead w q) _ g 0 _ (by show g < w.heap.size; exact hblk), grow_grow]⟩

end Go.Proofs.Ytmbgmpeiicjlaaa
