/-
  The sums by their names: the program and the model.
-/
import Derived.Test.YtjpnbcfdnolcjabSbM
namespace Go.Proofs.Ytjpnbcfdnolcjab
open Go.ChangeShapes Go.WideShapes Go.ChangeAt Go.RowKit Go.Deep Go.Joins

attribute [local go_sem] run_store_f

theorem codeLs0 (zs : List Nat) : (okLs zs = true ∧ codeLs zs 0 = 0) ∨ (okLs zs = false ∧ codeLs zs 0 = 1) := by
  unfold codeLs
  cases okLs zs with
  | false => right; exact ⟨rfl, if_pos rfl⟩
  | true => left; exact ⟨rfl, by rw [if_neg (by decide), if_neg (by omega)]⟩

set_option maxRecDepth 100000 in
set_option maxHeartbeats 4000000 in
theorem sumBy_left (sv : Value) (zs : List Nat) (v : Nat) (ho : okLs zs = true) (w : World) (hz : FloatsAt w sv zs)
    (hF : ∀ W, FloatsAt W sv zs → Calls Try.prog 61 #[sv] W fun e w' => e = .returned (.float .f32 v) ∧ Below W.heap.size W w') :
    Calls Try.prog 43 #[.string ⟨#[108, 101, 102, 116]⟩, sv] w fun e w' => e = .returned (.tuple #[.float .f32 v, .int .i64 0]) ∧ Below w.heap.size w w' := by
  have HV := Lib.hid (ValidList_any sv zs w hz)
  rw [ho] at HV
  have HZ := Lib.hid hz
  have HF := Lib.hid hF
  clear hF ho hz
  go_enter Try.func43, Try.ntmps43
  go_wp2_with (first | (go_at_call 53; refine HV.out.mono ?_; rintro e w' ⟨rfl, rfl⟩) | (go_at_call 54; refine (sums_any _).mono ?_; rintro e w1 ⟨b, rfl, hle, hb, hB⟩; have HB := Lib.hid hb; clear hb) | (refine wpList_lookup_run rfl _ _ 46 false rfl (.map (some b)) (.string ⟨#[108, 101, 102, 116]⟩) (.func (.func 61) #[] #[]) rfl rfl (look_left HB.out) ?_) | (go_at_call 61; refine (HF.out _ (floats_below HZ.out hB)).mono ?_; rintro e w2 ⟨rfl, hB2⟩; have hB3 := hB.trans (hB2.mono hB.size); clear hB2))
  go_ret2
  exact ⟨rfl, hB3⟩

set_option maxRecDepth 100000 in
set_option maxHeartbeats 4000000 in
theorem sumNo_left (sv : Value) (zs : List Nat) (ho : okLs zs = false) (w : World) (hz : FloatsAt w sv zs) :
    Calls Try.prog 43 #[.string ⟨#[108, 101, 102, 116]⟩, sv] w fun e w' => e = .returned (.tuple #[.float .f32 0, .int .i64 1]) ∧ Below w.heap.size w w' := by
  have HV := Lib.hid (ValidList_any sv zs w hz)
  rw [ho] at HV
  clear ho hz
  go_enter Try.func43, Try.ntmps43
  go_wp2_with (go_at_call 53; refine HV.out.mono ?_; rintro e w' ⟨rfl, rfl⟩)
  go_ret2
  exact ⟨rfl, Below.refl _ _⟩

set_option maxRecDepth 100000 in
set_option maxHeartbeats 4000000 in
theorem sumBy_right (sv : Value) (zs : List Nat) (v : Nat) (ho : okLs zs = true) (w : World) (hz : FloatsAt w sv zs)
    (hF : ∀ W, FloatsAt W sv zs → Calls Try.prog 73 #[sv] W fun e w' => e = .returned (.float .f32 v) ∧ Below W.heap.size W w') :
    Calls Try.prog 43 #[.string ⟨#[114, 105, 103, 104, 116]⟩, sv] w fun e w' => e = .returned (.tuple #[.float .f32 v, .int .i64 0]) ∧ Below w.heap.size w w' := by
  have HV := Lib.hid (ValidList_any sv zs w hz)
  rw [ho] at HV
  have HZ := Lib.hid hz
  have HF := Lib.hid hF
  clear hF ho hz
  go_enter Try.func43, Try.ntmps43
  go_wp2_with (first | (go_at_call 53; refine HV.out.mono ?_; rintro e w' ⟨rfl, rfl⟩) | (go_at_call 54; refine (sums_any _).mono ?_; rintro e w1 ⟨b, rfl, hle, hb, hB⟩; have HB := Lib.hid hb; clear hb) | (refine wpList_lookup_run rfl _ _ 46 false rfl (.map (some b)) (.string ⟨#[114, 105, 103, 104, 116]⟩) (.func (.func 73) #[] #[]) rfl rfl (look_right HB.out) ?_) | (go_at_call 73; refine (HF.out _ (floats_below HZ.out hB)).mono ?_; rintro e w2 ⟨rfl, hB2⟩; have hB3 := hB.trans (hB2.mono hB.size); clear hB2))
  go_ret2
  exact ⟨rfl, hB3⟩

set_option maxRecDepth 100000 in
set_option maxHeartbeats 4000000 in
theorem sumNo_right (sv : Value) (zs : List Nat) (ho : okLs zs = false) (w : World) (hz : FloatsAt w sv zs) :
    Calls Try.prog 43 #[.string ⟨#[114, 105, 103, 104, 116]⟩, sv] w fun e w' => e = .returned (.tuple #[.float .f32 0, .int .i64 1]) ∧ Below w.heap.size w w' := by
  have HV := Lib.hid (ValidList_any sv zs w hz)
  rw [ho] at HV
  clear ho hz
  go_enter Try.func43, Try.ntmps43
  go_wp2_with (go_at_call 53; refine HV.out.mono ?_; rintro e w' ⟨rfl, rfl⟩)
  go_ret2
  exact ⟨rfl, Below.refl _ _⟩

set_option maxRecDepth 100000 in
set_option maxHeartbeats 4000000 in
theorem sumBy_pairs (sv : Value) (zs : List Nat) (v : Nat) (ho : okLs zs = true) (w : World) (hz : FloatsAt w sv zs)
    (hF : ∀ W, FloatsAt W sv zs → Calls Try.prog 74 #[sv] W fun e w' => e = .returned (.float .f32 v) ∧ Below W.heap.size W w') :
    Calls Try.prog 43 #[.string ⟨#[112, 97, 105, 114, 115]⟩, sv] w fun e w' => e = .returned (.tuple #[.float .f32 v, .int .i64 0]) ∧ Below w.heap.size w w' := by
  have HV := Lib.hid (ValidList_any sv zs w hz)
  rw [ho] at HV
  have HZ := Lib.hid hz
  have HF := Lib.hid hF
  clear hF ho hz
  go_enter Try.func43, Try.ntmps43
  go_wp2_with (first | (go_at_call 53; refine HV.out.mono ?_; rintro e w' ⟨rfl, rfl⟩) | (go_at_call 54; refine (sums_any _).mono ?_; rintro e w1 ⟨b, rfl, hle, hb, hB⟩; have HB := Lib.hid hb; clear hb) | (refine wpList_lookup_run rfl _ _ 46 false rfl (.map (some b)) (.string ⟨#[112, 97, 105, 114, 115]⟩) (.func (.func 74) #[] #[]) rfl rfl (look_pairs HB.out) ?_) | (go_at_call 74; refine (HF.out _ (floats_below HZ.out hB)).mono ?_; rintro e w2 ⟨rfl, hB2⟩; have hB3 := hB.trans (hB2.mono hB.size); clear hB2))
  go_ret2
  exact ⟨rfl, hB3⟩

set_option maxRecDepth 100000 in
set_option maxHeartbeats 4000000 in
theorem sumNo_pairs (sv : Value) (zs : List Nat) (ho : okLs zs = false) (w : World) (hz : FloatsAt w sv zs) :
    Calls Try.prog 43 #[.string ⟨#[112, 97, 105, 114, 115]⟩, sv] w fun e w' => e = .returned (.tuple #[.float .f32 0, .int .i64 1]) ∧ Below w.heap.size w w' := by
  have HV := Lib.hid (ValidList_any sv zs w hz)
  rw [ho] at HV
  clear ho hz
  go_enter Try.func43, Try.ntmps43
  go_wp2_with (go_at_call 53; refine HV.out.mono ?_; rintro e w' ⟨rfl, rfl⟩)
  go_ret2
  exact ⟨rfl, Below.refl _ _⟩

set_option maxRecDepth 100000 in
set_option maxHeartbeats 4000000 in
theorem sumBy_kept (sv : Value) (zs : List Nat) (v : Nat) (ho : okLs zs = true) (w : World) (hz : FloatsAt w sv zs)
    (hF : ∀ W, FloatsAt W sv zs → Calls Try.prog 75 #[sv] W fun e w' => e = .returned (.float .f32 v) ∧ Below W.heap.size W w') :
    Calls Try.prog 43 #[.string ⟨#[107, 101, 112, 116]⟩, sv] w fun e w' => e = .returned (.tuple #[.float .f32 v, .int .i64 0]) ∧ Below w.heap.size w w' := by
  have HV := Lib.hid (ValidList_any sv zs w hz)
  rw [ho] at HV
  have HZ := Lib.hid hz
  have HF := Lib.hid hF
  clear hF ho hz
  go_enter Try.func43, Try.ntmps43
  go_wp2_with (first | (go_at_call 53; refine HV.out.mono ?_; rintro e w' ⟨rfl, rfl⟩) | (go_at_call 54; refine (sums_any _).mono ?_; rintro e w1 ⟨b, rfl, hle, hb, hB⟩; have HB := Lib.hid hb; clear hb) | (refine wpList_lookup_run rfl _ _ 46 false rfl (.map (some b)) (.string ⟨#[107, 101, 112, 116]⟩) (.func (.func 75) #[] #[]) rfl rfl (look_kept HB.out) ?_) | (go_at_call 75; refine (HF.out _ (floats_below HZ.out hB)).mono ?_; rintro e w2 ⟨rfl, hB2⟩; have hB3 := hB.trans (hB2.mono hB.size); clear hB2))
  go_ret2
  exact ⟨rfl, hB3⟩

set_option maxRecDepth 100000 in
set_option maxHeartbeats 4000000 in
theorem sumNo_kept (sv : Value) (zs : List Nat) (ho : okLs zs = false) (w : World) (hz : FloatsAt w sv zs) :
    Calls Try.prog 43 #[.string ⟨#[107, 101, 112, 116]⟩, sv] w fun e w' => e = .returned (.tuple #[.float .f32 0, .int .i64 1]) ∧ Below w.heap.size w w' := by
  have HV := Lib.hid (ValidList_any sv zs w hz)
  rw [ho] at HV
  clear ho hz
  go_enter Try.func43, Try.ntmps43
  go_wp2_with (go_at_call 53; refine HV.out.mono ?_; rintro e w' ⟨rfl, rfl⟩)
  go_ret2
  exact ⟨rfl, Below.refl _ _⟩

set_option maxRecDepth 100000 in
set_option maxHeartbeats 4000000 in
theorem sumBy_wide (sv : Value) (zs : List Nat) (v : Nat) (ho : okLs zs = true) (w : World) (hz : FloatsAt w sv zs)
    (hF : ∀ W, FloatsAt W sv zs → Calls Try.prog 76 #[sv] W fun e w' => e = .returned (.float .f32 v) ∧ Below W.heap.size W w') :
    Calls Try.prog 43 #[.string ⟨#[119, 105, 100, 101]⟩, sv] w fun e w' => e = .returned (.tuple #[.float .f32 v, .int .i64 0]) ∧ Below w.heap.size w w' := by
  have HV := Lib.hid (ValidList_any sv zs w hz)
  rw [ho] at HV
  have HZ := Lib.hid hz
  have HF := Lib.hid hF
  clear hF ho hz
  go_enter Try.func43, Try.ntmps43
  go_wp2_with (first | (go_at_call 53; refine HV.out.mono ?_; rintro e w' ⟨rfl, rfl⟩) | (go_at_call 54; refine (sums_any _).mono ?_; rintro e w1 ⟨b, rfl, hle, hb, hB⟩; have HB := Lib.hid hb; clear hb) | (refine wpList_lookup_run rfl _ _ 46 false rfl (.map (some b)) (.string ⟨#[119, 105, 100, 101]⟩) (.func (.func 76) #[] #[]) rfl rfl (look_wide HB.out) ?_) | (go_at_call 76; refine (HF.out _ (floats_below HZ.out hB)).mono ?_; rintro e w2 ⟨rfl, hB2⟩; have hB3 := hB.trans (hB2.mono hB.size); clear hB2))
  go_ret2
  exact ⟨rfl, hB3⟩

set_option maxRecDepth 100000 in
set_option maxHeartbeats 4000000 in
theorem sumNo_wide (sv : Value) (zs : List Nat) (ho : okLs zs = false) (w : World) (hz : FloatsAt w sv zs) :
    Calls Try.prog 43 #[.string ⟨#[119, 105, 100, 101]⟩, sv] w fun e w' => e = .returned (.tuple #[.float .f32 0, .int .i64 1]) ∧ Below w.heap.size w w' := by
  have HV := Lib.hid (ValidList_any sv zs w hz)
  rw [ho] at HV
  clear ho hz
  go_enter Try.func43, Try.ntmps43
  go_wp2_with (go_at_call 53; refine HV.out.mono ?_; rintro e w' ⟨rfl, rfl⟩)
  go_ret2
  exact ⟨rfl, Below.refl _ _⟩

set_option maxRecDepth 100000 in
set_option maxHeartbeats 4000000 in
theorem sumBy_small (sv : Value) (zs : List Nat) (v : Nat) (ho : okLs zs = true) (w : World) (hz : FloatsAt w sv zs)
    (hF : ∀ W, FloatsAt W sv zs → Calls Try.prog 77 #[sv] W fun e w' => e = .returned (.float .f32 v) ∧ Below W.heap.size W w') :
    Calls Try.prog 43 #[.string ⟨#[115, 109, 97, 108, 108]⟩, sv] w fun e w' => e = .returned (.tuple #[.float .f32 v, .int .i64 0]) ∧ Below w.heap.size w w' := by
  have HV := Lib.hid (ValidList_any sv zs w hz)
  rw [ho] at HV
  have HZ := Lib.hid hz
  have HF := Lib.hid hF
  clear hF ho hz
  go_enter Try.func43, Try.ntmps43
  go_wp2_with (first | (go_at_call 53; refine HV.out.mono ?_; rintro e w' ⟨rfl, rfl⟩) | (go_at_call 54; refine (sums_any _).mono ?_; rintro e w1 ⟨b, rfl, hle, hb, hB⟩; have HB := Lib.hid hb; clear hb) | (refine wpList_lookup_run rfl _ _ 46 false rfl (.map (some b)) (.string ⟨#[115, 109, 97, 108, 108]⟩) (.func (.func 77) #[] #[]) rfl rfl (look_small HB.out) ?_) | (go_at_call 77; refine (HF.out _ (floats_below HZ.out hB)).mono ?_; rintro e w2 ⟨rfl, hB2⟩; have hB3 := hB.trans (hB2.mono hB.size); clear hB2))
  go_ret2
  exact ⟨rfl, hB3⟩

set_option maxRecDepth 100000 in
set_option maxHeartbeats 4000000 in
theorem sumNo_small (sv : Value) (zs : List Nat) (ho : okLs zs = false) (w : World) (hz : FloatsAt w sv zs) :
    Calls Try.prog 43 #[.string ⟨#[115, 109, 97, 108, 108]⟩, sv] w fun e w' => e = .returned (.tuple #[.float .f32 0, .int .i64 1]) ∧ Below w.heap.size w w' := by
  have HV := Lib.hid (ValidList_any sv zs w hz)
  rw [ho] at HV
  clear ho hz
  go_enter Try.func43, Try.ntmps43
  go_wp2_with (go_at_call 53; refine HV.out.mono ?_; rintro e w' ⟨rfl, rfl⟩)
  go_ret2
  exact ⟨rfl, Below.refl _ _⟩

set_option maxRecDepth 100000 in
set_option maxHeartbeats 1000000 in
theorem iSumLeft_of (sv : Value) (v : Nat) (c : Int) (w : World) (h : Calls Try.prog 43 #[.string ⟨#[108, 101, 102, 116]⟩, sv] w fun e w' => e = .returned (.tuple #[.float .f32 v, .int .i64 c]) ∧ Below w.heap.size w w') :
    Calls Try.prog 15 #[sv] w fun e w' => e = .returned (.tuple #[.float .f32 v, .int .i64 c]) ∧ Below w.heap.size w w' := by
  have H := Lib.hid h
  clear h
  go_enter Try.func15, Try.ntmps15
  go_wp2_with (go_at_call 43; refine H.out.mono ?_; rintro e w' ⟨rfl, hb⟩)
  go_ret2
  exact ⟨rfl, hb⟩

set_option maxRecDepth 100000 in
set_option maxHeartbeats 1000000 in
theorem sSumLeft_of (sv : Value) (zs : List Nat) (v : Nat) (ho : okLs zs = true) (w : World) (hz : FloatsAt w sv zs)
    (hF : Calls Try.prog 42 #[sv] w fun e w' => e = .returned (.float .f32 v) ∧ Below w.heap.size w w') :
    Calls Try.prog 13 #[sv] w fun e w' => e = .returned (.tuple #[.float .f32 v, .int .i64 0]) ∧ Below w.heap.size w w' := by
  have HC := Lib.hid (l06Code_any sv zs 0 w hz)
  have HF := Lib.hid hF
  have hc : codeLs zs 0 = 0 := by
    rcases codeLs0 zs with ⟨_, h⟩ | ⟨h, _⟩
    · exact h
    · rw [ho] at h; cases h
  rw [hc] at HC
  clear hF ho hz hc
  go_enter Try.func13, Try.ntmps13
  go_wp2_with (first | (go_at_call 41; refine HC.out.mono ?_; rintro e w' ⟨rfl, rfl⟩) | (go_at_call 42; refine HF.out.mono ?_; rintro e w' ⟨rfl, hb⟩))
  go_ret2
  exact ⟨rfl, hb⟩

theorem sSumLeft_no (sv : Value) (zs : List Nat) (ho : okLs zs = false) (w : World) (hz : FloatsAt w sv zs) :
    Calls Try.prog 13 #[sv] w fun e w' => e = .returned (.tuple #[.float .f32 0, .int .i64 1]) ∧ Below w.heap.size w w' := by
  have HC := Lib.hid (l06Code_any sv zs 0 w hz)
  have hc : codeLs zs 0 = 1 := by
    rcases codeLs0 zs with ⟨h, _⟩ | ⟨_, h⟩
    · rw [ho] at h; cases h
    · exact h
  rw [hc] at HC
  clear ho hz hc
  go_enter Try.func13, Try.ntmps13
  go_wp2_with (go_at_call 41; refine HC.out.mono ?_; rintro e w' ⟨rfl, rfl⟩)
  go_ret2
  exact ⟨rfl, Below.refl _ _⟩

set_option maxRecDepth 100000 in
set_option maxHeartbeats 1000000 in
theorem iSumRight_of (sv : Value) (v : Nat) (c : Int) (w : World) (h : Calls Try.prog 43 #[.string ⟨#[114, 105, 103, 104, 116]⟩, sv] w fun e w' => e = .returned (.tuple #[.float .f32 v, .int .i64 c]) ∧ Below w.heap.size w w') :
    Calls Try.prog 19 #[sv] w fun e w' => e = .returned (.tuple #[.float .f32 v, .int .i64 c]) ∧ Below w.heap.size w w' := by
  have H := Lib.hid h
  clear h
  go_enter Try.func19, Try.ntmps19
  go_wp2_with (go_at_call 43; refine H.out.mono ?_; rintro e w' ⟨rfl, hb⟩)
  go_ret2
  exact ⟨rfl, hb⟩

set_option maxRecDepth 100000 in
set_option maxHeartbeats 1000000 in
theorem sSumRight_of (sv : Value) (zs : List Nat) (v : Nat) (ho : okLs zs = true) (w : World) (hz : FloatsAt w sv zs)
    (hF : Calls Try.prog 44 #[sv] w fun e w' => e = .returned (.float .f32 v) ∧ Below w.heap.size w w') :
    Calls Try.prog 18 #[sv] w fun e w' => e = .returned (.tuple #[.float .f32 v, .int .i64 0]) ∧ Below w.heap.size w w' := by
  have HC := Lib.hid (l06Code_any sv zs 0 w hz)
  have HF := Lib.hid hF
  have hc : codeLs zs 0 = 0 := by
    rcases codeLs0 zs with ⟨_, h⟩ | ⟨h, _⟩
    · exact h
    · rw [ho] at h; cases h
  rw [hc] at HC
  clear hF ho hz hc
  go_enter Try.func18, Try.ntmps18
  go_wp2_with (first | (go_at_call 41; refine HC.out.mono ?_; rintro e w' ⟨rfl, rfl⟩) | (go_at_call 44; refine HF.out.mono ?_; rintro e w' ⟨rfl, hb⟩))
  go_ret2
  exact ⟨rfl, hb⟩

theorem sSumRight_no (sv : Value) (zs : List Nat) (ho : okLs zs = false) (w : World) (hz : FloatsAt w sv zs) :
    Calls Try.prog 18 #[sv] w fun e w' => e = .returned (.tuple #[.float .f32 0, .int .i64 1]) ∧ Below w.heap.size w w' := by
  have HC := Lib.hid (l06Code_any sv zs 0 w hz)
  have hc : codeLs zs 0 = 1 := by
    rcases codeLs0 zs with ⟨h, _⟩ | ⟨_, h⟩
    · rw [ho] at h; cases h
    · exact h
  rw [hc] at HC
  clear ho hz hc
  go_enter Try.func18, Try.ntmps18
  go_wp2_with (go_at_call 41; refine HC.out.mono ?_; rintro e w' ⟨rfl, rfl⟩)
  go_ret2
  exact ⟨rfl, Below.refl _ _⟩

set_option maxRecDepth 100000 in
set_option maxHeartbeats 1000000 in
theorem iSumPairs_of (sv : Value) (v : Nat) (c : Int) (w : World) (h : Calls Try.prog 43 #[.string ⟨#[112, 97, 105, 114, 115]⟩, sv] w fun e w' => e = .returned (.tuple #[.float .f32 v, .int .i64 c]) ∧ Below w.heap.size w w') :
    Calls Try.prog 21 #[sv] w fun e w' => e = .returned (.tuple #[.float .f32 v, .int .i64 c]) ∧ Below w.heap.size w w' := by
  have H := Lib.hid h
  clear h
  go_enter Try.func21, Try.ntmps21
  go_wp2_with (go_at_call 43; refine H.out.mono ?_; rintro e w' ⟨rfl, hb⟩)
  go_ret2
  exact ⟨rfl, hb⟩

set_option maxRecDepth 100000 in
set_option maxHeartbeats 1000000 in
theorem sSumPairs_of (sv : Value) (zs : List Nat) (v : Nat) (ho : okLs zs = true) (w : World) (hz : FloatsAt w sv zs)
    (hF : Calls Try.prog 45 #[sv] w fun e w' => e = .returned (.float .f32 v) ∧ Below w.heap.size w w') :
    Calls Try.prog 20 #[sv] w fun e w' => e = .returned (.tuple #[.float .f32 v, .int .i64 0]) ∧ Below w.heap.size w w' := by
  have HC := Lib.hid (l06Code_any sv zs 0 w hz)
  have HF := Lib.hid hF
  have hc : codeLs zs 0 = 0 := by
    rcases codeLs0 zs with ⟨_, h⟩ | ⟨h, _⟩
    · exact h
    · rw [ho] at h; cases h
  rw [hc] at HC
  clear hF ho hz hc
  go_enter Try.func20, Try.ntmps20
  go_wp2_with (first | (go_at_call 41; refine HC.out.mono ?_; rintro e w' ⟨rfl, rfl⟩) | (go_at_call 45; refine HF.out.mono ?_; rintro e w' ⟨rfl, hb⟩))
  go_ret2
  exact ⟨rfl, hb⟩

theorem sSumPairs_no (sv : Value) (zs : List Nat) (ho : okLs zs = false) (w : World) (hz : FloatsAt w sv zs) :
    Calls Try.prog 20 #[sv] w fun e w' => e = .returned (.tuple #[.float .f32 0, .int .i64 1]) ∧ Below w.heap.size w w' := by
  have HC := Lib.hid (l06Code_any sv zs 0 w hz)
  have hc : codeLs zs 0 = 1 := by
    rcases codeLs0 zs with ⟨h, _⟩ | ⟨_, h⟩
    · rw [ho] at h; cases h
    · exact h
  rw [hc] at HC
  clear ho hz hc
  go_enter Try.func20, Try.ntmps20
  go_wp2_with (go_at_call 41; refine HC.out.mono ?_; rintro e w' ⟨rfl, rfl⟩)
  go_ret2
  exact ⟨rfl, Below.refl _ _⟩

set_option maxRecDepth 100000 in
set_option maxHeartbeats 1000000 in
theorem iSumKept_of (sv : Value) (v : Nat) (c : Int) (w : World) (h : Calls Try.prog 43 #[.string ⟨#[107, 101, 112, 116]⟩, sv] w fun e w' => e = .returned (.tuple #[.float .f32 v, .int .i64 c]) ∧ Below w.heap.size w w') :
    Calls Try.prog 23 #[sv] w fun e w' => e = .returned (.tuple #[.float .f32 v, .int .i64 c]) ∧ Below w.heap.size w w' := by
  have H := Lib.hid h
  clear h
  go_enter Try.func23, Try.ntmps23
  go_wp2_with (go_at_call 43; refine H.out.mono ?_; rintro e w' ⟨rfl, hb⟩)
  go_ret2
  exact ⟨rfl, hb⟩

set_option maxRecDepth 100000 in
set_option maxHeartbeats 1000000 in
theorem sSumKept_of (sv : Value) (zs : List Nat) (v : Nat) (ho : okLs zs = true) (w : World) (hz : FloatsAt w sv zs)
    (hF : Calls Try.prog 46 #[sv] w fun e w' => e = .returned (.float .f32 v) ∧ Below w.heap.size w w') :
    Calls Try.prog 22 #[sv] w fun e w' => e = .returned (.tuple #[.float .f32 v, .int .i64 0]) ∧ Below w.heap.size w w' := by
  have HC := Lib.hid (l06Code_any sv zs 0 w hz)
  have HF := Lib.hid hF
  have hc : codeLs zs 0 = 0 := by
    rcases codeLs0 zs with ⟨_, h⟩ | ⟨h, _⟩
    · exact h
    · rw [ho] at h; cases h
  rw [hc] at HC
  clear hF ho hz hc
  go_enter Try.func22, Try.ntmps22
  go_wp2_with (first | (go_at_call 41; refine HC.out.mono ?_; rintro e w' ⟨rfl, rfl⟩) | (go_at_call 46; refine HF.out.mono ?_; rintro e w' ⟨rfl, hb⟩))
  go_ret2
  exact ⟨rfl, hb⟩

theorem sSumKept_no (sv : Value) (zs : List Nat) (ho : okLs zs = false) (w : World) (hz : FloatsAt w sv zs) :
    Calls Try.prog 22 #[sv] w fun e w' => e = .returned (.tuple #[.float .f32 0, .int .i64 1]) ∧ Below w.heap.size w w' := by
  have HC := Lib.hid (l06Code_any sv zs 0 w hz)
  have hc : codeLs zs 0 = 1 := by
    rcases codeLs0 zs with ⟨h, _⟩ | ⟨_, h⟩
    · rw [ho] at h; cases h
    · exact h
  rw [hc] at HC
  clear ho hz hc
  go_enter Try.func22, Try.ntmps22
  go_wp2_with (go_at_call 41; refine HC.out.mono ?_; rintro e w' ⟨rfl, rfl⟩)
  go_ret2
  exact ⟨rfl, Below.refl _ _⟩

set_option maxRecDepth 100000 in
set_option maxHeartbeats 1000000 in
theorem iSumWide_of (sv : Value) (v : Nat) (c : Int) (w : World) (h : Calls Try.prog 43 #[.string ⟨#[119, 105, 100, 101]⟩, sv] w fun e w' => e = .returned (.tuple #[.float .f32 v, .int .i64 c]) ∧ Below w.heap.size w w') :
    Calls Try.prog 25 #[sv] w fun e w' => e = .returned (.tuple #[.float .f32 v, .int .i64 c]) ∧ Below w.heap.size w w' := by
  have H := Lib.hid h
  clear h
  go_enter Try.func25, Try.ntmps25
  go_wp2_with (go_at_call 43; refine H.out.mono ?_; rintro e w' ⟨rfl, hb⟩)
  go_ret2
  exact ⟨rfl, hb⟩

set_option maxRecDepth 100000 in
set_option maxHeartbeats 1000000 in
theorem sSumWide_of (sv : Value) (zs : List Nat) (v : Nat) (ho : okLs zs = true) (w : World) (hz : FloatsAt w sv zs)
    (hF : Calls Try.prog 47 #[sv] w fun e w' => e = .returned (.float .f32 v) ∧ Below w.heap.size w w') :
    Calls Try.prog 24 #[sv] w fun e w' => e = .returned (.tuple #[.float .f32 v, .int .i64 0]) ∧ Below w.heap.size w w' := by
  have HC := Lib.hid (l06Code_any sv zs 0 w hz)
  have HF := Lib.hid hF
  have hc : codeLs zs 0 = 0 := by
    rcases codeLs0 zs with ⟨_, h⟩ | ⟨h, _⟩
    · exact h
    · rw [ho] at h; cases h
  rw [hc] at HC
  clear hF ho hz hc
  go_enter Try.func24, Try.ntmps24
  go_wp2_with (first | (go_at_call 41; refine HC.out.mono ?_; rintro e w' ⟨rfl, rfl⟩) | (go_at_call 47; refine HF.out.mono ?_; rintro e w' ⟨rfl, hb⟩))
  go_ret2
  exact ⟨rfl, hb⟩

theorem sSumWide_no (sv : Value) (zs : List Nat) (ho : okLs zs = false) (w : World) (hz : FloatsAt w sv zs) :
    Calls Try.prog 24 #[sv] w fun e w' => e = .returned (.tuple #[.float .f32 0, .int .i64 1]) ∧ Below w.heap.size w w' := by
  have HC := Lib.hid (l06Code_any sv zs 0 w hz)
  have hc : codeLs zs 0 = 1 := by
    rcases codeLs0 zs with ⟨h, _⟩ | ⟨_, h⟩
    · rw [ho] at h; cases h
    · exact h
  rw [hc] at HC
  clear ho hz hc
  go_enter Try.func24, Try.ntmps24
  go_wp2_with (go_at_call 41; refine HC.out.mono ?_; rintro e w' ⟨rfl, rfl⟩)
  go_ret2
  exact ⟨rfl, Below.refl _ _⟩

set_option maxRecDepth 100000 in
set_option maxHeartbeats 1000000 in
theorem iSumSmall_of (sv : Value) (v : Nat) (c : Int) (w : World) (h : Calls Try.prog 43 #[.string ⟨#[115, 109, 97, 108, 108]⟩, sv] w fun e w' => e = .returned (.tuple #[.float .f32 v, .int .i64 c]) ∧ Below w.heap.size w w') :
    Calls Try.prog 27 #[sv] w fun e w' => e = .returned (.tuple #[.float .f32 v, .int .i64 c]) ∧ Below w.heap.size w w' := by
  have H := Lib.hid h
  clear h
  go_enter Try.func27, Try.ntmps27
  go_wp2_with (go_at_call 43; refine H.out.mono ?_; rintro e w' ⟨rfl, hb⟩)
  go_ret2
  exact ⟨rfl, hb⟩

set_option maxRecDepth 100000 in
set_option maxHeartbeats 1000000 in
theorem sSumSmall_of (sv : Value) (zs : List Nat) (v : Nat) (ho : okLs zs = true) (w : World) (hz : FloatsAt w sv zs)
    (hF : Calls Try.prog 48 #[sv] w fun e w' => e = .returned (.float .f32 v) ∧ Below w.heap.size w w') :
    Calls Try.prog 26 #[sv] w fun e w' => e = .returned (.tuple #[.float .f32 v, .int .i64 0]) ∧ Below w.heap.size w w' := by
  have HC := Lib.hid (l06Code_any sv zs 0 w hz)
  have HF := Lib.hid hF
  have hc : codeLs zs 0 = 0 := by
    rcases codeLs0 zs with ⟨_, h⟩ | ⟨h, _⟩
    · exact h
    · rw [ho] at h; cases h
  rw [hc] at HC
  clear hF ho hz hc
  go_enter Try.func26, Try.ntmps26
  go_wp2_with (first | (go_at_call 41; refine HC.out.mono ?_; rintro e w' ⟨rfl, rfl⟩) | (go_at_call 48; refine HF.out.mono ?_; rintro e w' ⟨rfl, hb⟩))
  go_ret2
  exact ⟨rfl, hb⟩

theorem sSumSmall_no (sv : Value) (zs : List Nat) (ho : okLs zs = false) (w : World) (hz : FloatsAt w sv zs) :
    Calls Try.prog 26 #[sv] w fun e w' => e = .returned (.tuple #[.float .f32 0, .int .i64 1]) ∧ Below w.heap.size w w' := by
  have HC := Lib.hid (l06Code_any sv zs 0 w hz)
  have hc : codeLs zs 0 = 1 := by
    rcases codeLs0 zs with ⟨h, _⟩ | ⟨_, h⟩
    · rw [ho] at h; cases h
    · exact h
  rw [hc] at HC
  clear ho hz hc
  go_enter Try.func26, Try.ntmps26
  go_wp2_with (go_at_call 41; refine HC.out.mono ?_; rintro e w' ⟨rfl, rfl⟩)
  go_ret2
  exact ⟨rfl, Below.refl _ _⟩

end Go.Proofs.Ytjpnbcfdnolcjab
