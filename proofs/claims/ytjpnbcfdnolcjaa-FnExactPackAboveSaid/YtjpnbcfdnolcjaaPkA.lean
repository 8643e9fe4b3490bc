/-
  The numbers that are greater than a bound, as bits: the program and the model.
-/
import Derived.Test.YtjpnbcfdnolcjaaAdL
import Derived.Laws.BitsAllLaws
import Derived.IntWalk
namespace Go.Proofs.Ytjpnbcfdnolcjaa
open Go.ChangeShapes Go.WideShapes Go.ChangeAt Go.RowKit Go.Deep Go.Joins

attribute [local go_sem] run_store_f

/-- Whether a number is greater. -/
def gtF (a b : Nat) : Bool := FloatKind.f32.format.order a b == some .gt
theorem gt_cases {a b : Nat} (ha : fin32 a = true) (hb : fin32 b = true) : (FloatKind.f32.format.order a b = some .gt ∧ gtF a b = true) ∨ (FloatKind.f32.format.order a b = some .eq ∧ gtF a b = false) ∨ (FloatKind.f32.format.order a b = some .lt ∧ gtF a b = false) := by
  obtain ⟨o, h⟩ := order_some ha hb
  unfold gtF
  cases o
  · right; right; exact ⟨h, by rw [h]; rfl⟩
  · right; left; exact ⟨h, by rw [h]; rfl⟩
  · left; exact ⟨h, by rw [h]; rfl⟩
/-- The bits of the first k numbers. -/
def packK (zs : List Nat) (b : Nat) : Nat → Nat
  | 0 => 0
  | k + 1 => if gtF (zs.getD k 0) b then packK zs b k ||| 2 ^ k else packK zs b k
theorem packK_lt (zs : List Nat) (b : Nat) : ∀ k, k ≤ 48 → packK zs b k < 2 ^ k
  | 0, _ => by show 0 < 1; decide
  | k + 1, h => by
    have ih := packK_lt zs b k (by omega)
    have h2 : 2 ^ (k + 1) = 2 * 2 ^ k := by rw [Nat.pow_succ]; omega
    rw [packK]
    split
    · exact Nat.or_lt_two_pow (by omega) (by omega)
    · omega
theorem fin_iff {b : Nat} : (FloatKind.f32.format.order b b = some .eq ∧ fin32 b = true) ∨ (FloatKind.f32.format.order b b = none ∧ fin32 b = false) := by
  unfold fin32
  show ((Ieee.single.read b).order (Ieee.single.read b) = some .eq ∧ _) ∨ _
  generalize hd : Ieee.single.read b = d
  have e : FloatKind.f32.format.order b b = d.order d := by show (Ieee.single.read b).order (Ieee.single.read b) = _; rw [hd]
  rw [e]
  cases d with
  | number s m e => left; simp [Ieee.Datum.order, Ieee.Datum.isNaN]
  | infinity s => left; simp [Ieee.Datum.order, Ieee.Datum.isNaN]
  | nan s f => right; exact ⟨rfl, rfl⟩
theorem two64 (k : Nat) (h : k ≤ 48) : 2 ^ k < 18446744073709551616 := by
  have : 2 ^ k ≤ 2 ^ 48 := Nat.pow_le_pow_right (by decide) h
  omega
theorem iNum_any (b : Nat) (w : World) : Calls Try.prog 70 #[.float .f32 b] w fun e w' => e = .returned (.bool (fin32 b)) ∧ w = w' := by
  rcases fin_iff (b := b) with ⟨h, e⟩ | ⟨h, e⟩
  all_goals
    rw [e]
    clear e
    go_enter Try.func70, Try.ntmps70
    go_wp2
    go_ret
    exact ⟨rfl, rfl⟩
theorem sNum_any (b : Nat) (w : World) : Calls Try.prog 69 #[.float .f32 b] w fun e w' => e = .returned (.bool (fin32 b)) ∧ w = w' := by
  rcases fin_iff (b := b) with ⟨h, e⟩ | ⟨h, e⟩
  all_goals
    rw [e]
    clear e
    go_enter Try.func69, Try.ntmps69
    go_wp2
    go_ret
    exact ⟨rfl, rfl⟩
def codePk (zs : List Nat) (b : Nat) : Int := if okLs zs = false then 1 else if fin32 b = false then 2 else 0

theorem codePk_zero {zs : List Nat} {b : Nat} (hw : ∀ z ∈ zs, (Lit.float .f32 z).wf = true) (h : codePk zs b = 0) : okLs zs = true ∧ fin32 b = true ∧ zs.length ≤ 48 ∧ ∀ z ∈ zs, PlnOk z := by
  unfold codePk at h
  cases ho : okLs zs with
  | false => rw [ho, if_pos rfl] at h; cases h
  | true =>
    cases hb : fin32 b with
    | false => rw [ho, hb, if_neg (by decide), if_pos rfl] at h; cases h
    | true =>
      obtain ⟨x, y⟩ := okLs_get hw ho
      exact ⟨rfl, rfl, x, y⟩
theorem packK_step {zs : List Nat} {b k x : Nat} (hl : zs.length ≤ 48) (h : zs[k]? = some x) :
    (gtF x b = true → packK zs b (k + 1) = (packK zs b k ||| 2 ^ k)) ∧ (gtF x b = false → packK zs b (k + 1) = packK zs b k) ∧ IntKind.u64.wrap ((2 : Int) ^ k) = (2 : Int) ^ k ∧ bits .or .u64 (packK zs b k : Int) ((2 : Int) ^ k) = ((packK zs b k ||| 2 ^ k : Nat) : Int) := by
  have hk := (List.getElem?_eq_some_iff.1 h).1
  have e : zs.getD k 0 = x := by simp [List.getD, h]
  have h2 := two64 k (by omega)
  have hp := packK_lt zs b k (by omega)
  have ec : (2 : Int) ^ k = ((2 ^ k : Nat) : Int) := by rw [Int.natCast_pow]; rfl
  refine ⟨fun hg => by rw [packK, e, hg, if_pos rfl], fun hg => by rw [packK, e, hg, if_neg (by decide)], ?_, ?_⟩
  · rw [ec]; exact IntWalk.u64_in _ (by omega)
  · rw [ec]; exact u64_or_nat _ _ (by omega) h2
set_option maxRecDepth 100000 in
set_option maxHeartbeats 4000000 in
theorem iPackAbove_no (sv : Value) (zs : List Nat) (b : Nat) (c : Int) (hcd : codePk zs b = c) (hne : c ≠ 0) (w : World) (hz : FloatsAt w sv zs) :
    Calls Try.prog 41 #[sv, .float .f32 b] w fun e w' => e = .returned (.tuple #[.int .u64 0, .int .i64 c]) ∧ w = w' := by
  have HV := Lib.hid (ValidList_any sv zs w hz)
  have HB := Lib.hid (iNum_any b)
  subst hcd
  unfold codePk at hne ⊢
  clear hz
  generalize okLs zs = ok at *
  generalize fin32 b = fb at *
  cases ok with
  | false =>
    rw [if_pos rfl]
    clear hne
    go_enter Try.func41, Try.ntmps41
    go_wp2_with (go_at_call 17; refine HV.out.mono ?_; rintro e w' ⟨rfl, rfl⟩)
    go_ret2
    exact ⟨rfl, rfl⟩
  | true =>
    cases fb with
    | false =>
      rw [if_neg (by decide), if_pos rfl]
      clear hne
      go_enter Try.func41, Try.ntmps41
      go_wp2_with (first | (go_at_call 17; refine HV.out.mono ?_; rintro e w' ⟨rfl, rfl⟩) | (go_at_call 70; refine (HB.out _).mono ?_; rintro e w' ⟨rfl, rfl⟩))
      go_ret2
      exact ⟨rfl, rfl⟩
    | true => exact absurd rfl hne
set_option maxRecDepth 100000 in
set_option maxHeartbeats 4000000 in
theorem iPackAbove_yes (sv : Value) (zs : List Nat) (b : Nat) (hcd : codePk zs b = 0) (hwf : ∀ z ∈ zs, (Lit.float .f32 z).wf = true) (w : World) (hz : FloatsAt w sv zs) :
    Calls Try.prog 41 #[sv, .float .f32 b] w fun e w' => e = .returned (.tuple #[.int .u64 (packK zs b zs.length : Int), .int .i64 0]) ∧ w = w' := by
  obtain ⟨ho, hb, h48, hq⟩ := codePk_zero hwf hcd
  have HV := Lib.hid (ValidList_any sv zs w hz)
  have HB := Lib.hid (iNum_any b)
  rw [ho] at HV
  rw [hb] at HB
  have HG := Lib.hid (fun x (hx : x ∈ zs) => gt_cases (num_finN (hq x hx).1) hb)
  have HP := Lib.hid (fun k x => packK_step (b := b) (k := k) (x := x) h48)
  have HW := Lib.hid hz
  obtain ⟨a, cap, rfl, hl, hm, _⟩ := hz
  unfold maxLen at hm
  generalize hn : zs.length = n at *
  have HN := Lib.hid hn
  clear hn hcd hwf ho hb hq
  go_enter Try.func41, Try.ntmps41
  go_wp2_with (first | (go_at_call 17; refine HV.out.mono ?_; rintro e w' ⟨rfl, rfl⟩) | (go_at_call 70; refine (HB.out _).mono ?_; rintro e w' ⟨rfl, rfl⟩))
  clear HV HB
  go_loopw [6, 17] (fun s i wr => ∃ k : Nat, k ≤ n ∧ i = .int .i64 k ∧ s = .int .u64 (packK zs b k : Int) ∧ wr = w) (fun _ i _ => n - (intOf i).toNat)
  case atStart => exact ⟨0, Nat.zero_le _, rfl, rfl, rfl⟩
  case round =>
    obtain ⟨k, hk, rfl, rfl, rfl⟩ := hrel
    by_cases hlt : k < n
    · have hx : zs[k]? = some (zs[k]'(by rw [HN.out]; exact hlt)) := List.getElem?_eq_getElem _
      obtain ⟨g, o, rfl, hc⟩ := float_at HW.out hx
      generalize (zs[k]'(by rw [HN.out]; exact hlt)) = x at *
      have z1 : (k : Int) < (n : Int) := by omega
      have z2 : (0 : Int) ≤ (k : Int) := by omega
      have z3 : decide ((k : Int) < (n : Int)) = true := decide_eq_true z1
      obtain ⟨s1, s2, s3, s4⟩ := HP.out k x hx
      have hg := HG.out x (List.mem_of_getElem? hx)
      have S1 := Lib.hid s1
      have S2 := Lib.hid s2
      have S3 := Lib.hid s3
      have S4 := Lib.hid s4
      clear s1 s2 s3 s4 hx
      have z4 : IntKind.u64.wrap (k : Int) = (k : Int) := by rw [IntWalk.u64_in _ (by omega)]
      have z5 : (k : Int) ≤ 64 := by omega
      rcases hg with ⟨hg, e⟩ | ⟨hg, e⟩ | ⟨hg, e⟩
      · have E := Lib.hid e
        clear e
        go_wp2
        go_roundw
        case rel => exact ⟨k + 1, by omega, by go_num, by rw [S3.out, S4.out, S1.out E.out], by trivial⟩
        case measure => simp [intOf]; omega
      · have E := Lib.hid e
        clear e
        go_wp2
        go_roundw
        case rel => exact ⟨k + 1, by omega, by go_num, by rw [S2.out E.out], by trivial⟩
        case measure => simp [intOf]; omega
      · have E := Lib.hid e
        clear e
        go_wp2
        go_roundw
        case rel => exact ⟨k + 1, by omega, by go_num, by rw [S2.out E.out], by trivial⟩
        case measure => simp [intOf]; omega
    · obtain rfl : k = n := by omega
      go_wp2
      go_ret2
      exact ⟨rfl, rfl⟩
set_option maxRecDepth 100000 in
set_option maxHeartbeats 4000000 in
theorem sPackAbove_no (sv : Value) (zs : List Nat) (b : Nat) (c : Int) (hcd : codePk zs b = c) (hne : c ≠ 0) (w : World) (hz : FloatsAt w sv zs) :
    Calls Try.prog 40 #[sv, .float .f32 b] w fun e w' => e = .returned (.tuple #[.int .u64 0, .int .i64 c]) ∧ w = w' := by
  have HV := Lib.hid (l06Ok_any sv zs w hz)
  have HB := Lib.hid (sNum_any b)
  subst hcd
  unfold codePk at hne ⊢
  clear hz
  generalize okLs zs = ok at *
  generalize fin32 b = fb at *
  cases ok with
  | false =>
    rw [if_pos rfl]
    clear hne
    go_enter Try.func40, Try.ntmps40
    go_wp2_with (go_at_call 47; refine HV.out.mono ?_; rintro e w' ⟨rfl, rfl⟩)
    go_ret2
    exact ⟨rfl, rfl⟩
  | true =>
    cases fb with
    | false =>
      rw [if_neg (by decide), if_pos rfl]
      clear hne
      go_enter Try.func40, Try.ntmps40
      go_wp2_with (first | (go_at_call 47; refine HV.out.mono ?_; rintro e w' ⟨rfl, rfl⟩) | (go_at_call 69; refine (HB.out _).mono ?_; rintro e w' ⟨rfl, rfl⟩))
      go_ret2
      exact ⟨rfl, rfl⟩
    | true => exact absurd rfl hne
set_option maxRecDepth 100000 in
set_option maxHeartbeats 4000000 in
theorem sPackAbove_yes (sv : Value) (zs : List Nat) (b : Nat) (hcd : codePk zs b = 0) (hwf : ∀ z ∈ zs, (Lit.float .f32 z).wf = true) (w : World) (hz : FloatsAt w sv zs) :
    Calls Try.prog 40 #[sv, .float .f32 b] w fun e w' => e = .returned (.tuple #[.int .u64 (packK zs b zs.length : Int), .int .i64 0]) ∧ w = w' := by
  obtain ⟨ho, hb, h48, hq⟩ := codePk_zero hwf hcd
  have HV := Lib.hid (l06Ok_any sv zs w hz)
  have HB := Lib.hid (sNum_any b)
  rw [ho] at HV
  rw [hb] at HB
  have HG := Lib.hid (fun x (hx : x ∈ zs) => gt_cases (num_finN (hq x hx).1) hb)
  have HP := Lib.hid (fun k x => packK_step (b := b) (k := k) (x := x) h48)
  have HW := Lib.hid hz
  obtain ⟨a, cap, rfl, hl, hm, _⟩ := hz
  unfold maxLen at hm
  generalize hn : zs.length = n at *
  have HN := Lib.hid hn
  clear hn hcd hwf ho hb hq
  go_enter Try.func40, Try.ntmps40
  go_wp2_with (first | (go_at_call 47; refine HV.out.mono ?_; rintro e w' ⟨rfl, rfl⟩) | (go_at_call 69; refine (HB.out _).mono ?_; rintro e w' ⟨rfl, rfl⟩))
  clear HV HB
  go_loopw [6, 7] (fun s i wr => ∃ k : Nat, k ≤ n ∧ i = .int .i64 k ∧ s = .int .u64 (packK zs b k : Int) ∧ wr = w) (fun _ i _ => n - (intOf i).toNat)
  case atStart => exact ⟨0, Nat.zero_le _, rfl, rfl, rfl⟩
  case round =>
    obtain ⟨k, hk, rfl, rfl, rfl⟩ := hrel
    by_cases hlt : k < n
    · have hx : zs[k]? = some (zs[k]'(by rw [HN.out]; exact hlt)) := List.getElem?_eq_getElem _
      obtain ⟨g, o, rfl, hc⟩ := float_at HW.out hx
      generalize (zs[k]'(by rw [HN.out]; exact hlt)) = x at *
      have z1 : (k : Int) < (n : Int) := by omega
      have z2 : (0 : Int) ≤ (k : Int) := by omega
      have z3 : decide ((k : Int) < (n : Int)) = true := decide_eq_true z1
      obtain ⟨s1, s2, s3, s4⟩ := HP.out k x hx
      have hg := HG.out x (List.mem_of_getElem? hx)
      have S1 := Lib.hid s1
      have S2 := Lib.hid s2
      have S3 := Lib.hid s3
      have S4 := Lib.hid s4
      clear s1 s2 s3 s4 hx
      have z4 : IntKind.u64.wrap (k : Int) = (k : Int) := by rw [IntWalk.u64_in _ (by omega)]
      have z5 : (k : Int) ≤ 64 := by omega
      rcases hg with ⟨hg, e⟩ | ⟨hg, e⟩ | ⟨hg, e⟩
      · have E := Lib.hid e
        clear e
        go_wp2
        go_roundw
        case rel => exact ⟨k + 1, by omega, by go_num, by rw [S3.out, S4.out, S1.out E.out], by trivial⟩
        case measure => simp [intOf]; omega
      · have E := Lib.hid e
        clear e
        go_wp2
        go_roundw
        case rel => exact ⟨k + 1, by omega, by go_num, by rw [S2.out E.out], by trivial⟩
        case measure => simp [intOf]; omega
      · have E := Lib.hid e
        clear e
        go_wp2
        go_roundw
        case rel => exact ⟨k + 1, by omega, by go_num, by rw [S2.out E.out], by trivial⟩
        case measure => simp [intOf]; omega
    · obtain rfl : k = n := by omega
      go_wp2
      go_ret2
      exact ⟨rfl, rfl⟩

end Go.Proofs.Ytjpnbcfdnolcjaa
