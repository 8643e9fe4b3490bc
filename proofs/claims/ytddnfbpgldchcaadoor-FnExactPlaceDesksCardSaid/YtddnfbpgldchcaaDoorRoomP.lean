/-
  Rooms: which windows fit, at which tiles they are, how bright a tile is, as plain functions.
-/
import Derived.Test.YtddnfbpgldchcaaDoorRoomA
import Derived.Test.YtddnfbpgldchcaaDoorPart
import Derived.Test.YtddnfbpgldchcaaDoorLit
namespace Go.Proofs.YtddnfbpgldchcaaDoor
open Go Go.RowKit

/-- A window fits a room. -/
def lastW (wide high : Int) (wl : Int) : Int := if wl = 1 ∨ wl = 3 then high else wide
def fitB (wide high : Int) (x : Wn) : Bool := inI 0 3 x.1 && (inI 0 (lastW wide high x.1 - 1) x.2.1 && partB x.2.2)
def okRm (wide high : Int) (ws : List Wn) : Bool := inI 1 10 wide && (inI 1 10 high && (decide (ws.length ≤ 12) && ws.all (fitB wide high)))
structure RmOk (wide high : Int) (ws : List Wn) : Prop where
  w0 : 1 ≤ wide
  w1 : wide ≤ 10
  h0 : 1 ≤ high
  h1 : high ≤ 10
  len : ws.length ≤ 12
  all : ∀ x ∈ ws, fitB wide high x = true
theorem okRm_get {wide high : Int} {ws : List Wn} (h : okRm wide high ws = true) : RmOk wide high ws := by
  simp only [okRm, Bool.and_eq_true, decide_eq_true_eq, List.all_eq_true] at h
  obtain ⟨a, b, c, d⟩ := h
  exact ⟨(inI_get a).1, (inI_get a).2, (inI_get b).1, (inI_get b).2, c, d⟩

/-- The tile at which a window is. -/
def tlW (wide high : Int) (x : Wn) : Int × Int := if x.1 = 0 then (x.2.1, 0) else if x.1 = 1 then (wide - 1, x.2.1) else if x.1 = 2 then (x.2.1, high - 1) else (0, x.2.1)
def inRoom (wide high : Int) (t : Int × Int) : Prop := 0 ≤ t.1 ∧ t.1 < wide ∧ 0 ≤ t.2 ∧ t.2 < high
structure FitOk (wide high : Int) (x : Wn) : Prop where
  l0 : 0 ≤ x.1
  l1 : x.1 ≤ 3
  a0 : 0 ≤ x.2.1
  a1 : x.2.1 < lastW wide high x.1
  part : PartOk x.2.2
theorem fit_get {wide high : Int} {x : Wn} (hw : WnWf x) (h : fitB wide high x = true) : FitOk wide high x := by
  simp only [fitB, Bool.and_eq_true] at h
  obtain ⟨a, b, c⟩ := h
  have hp := betw_zero hw.2.2 (by decide) c
  have hb := inI_get b
  exact ⟨(inI_get a).1, (inI_get a).2, hb.1, by omega, hp⟩
theorem tlW_in {wide high : Int} {x : Wn} (w0 : 1 ≤ wide) (h0 : 1 ≤ high) (h : FitOk wide high x) : inRoom wide high (tlW wide high x) := by
  obtain ⟨l0, l1, a0, a1, _⟩ := h
  unfold lastW at a1
  unfold tlW inRoom
  split
  · rw [if_neg (by omega)] at a1; exact ⟨a0, a1, Int.le_refl _, by dsimp only; omega⟩
  · split
    · rw [if_pos (by omega)] at a1; exact ⟨by dsimp only; omega, by dsimp only; omega, a0, a1⟩
    · split
      · rw [if_neg (by omega)] at a1; exact ⟨a0, a1, by dsimp only; omega, by dsimp only; omega⟩
      · rw [if_pos (by omega)] at a1; exact ⟨Int.le_refl _, by dsimp only; omega, a0, a1⟩

/-- The squares of how far two tiles are apart. -/
def sqT (a b : Int × Int) : Int := (a.1 - b.1) * (a.1 - b.1) + (a.2 - b.2) * (a.2 - b.2)
theorem sq_nat : ∀ n : Nat, n < 19 → 0 ≤ ((n : Int) - 9) * ((n : Int) - 9) ∧ ((n : Int) - 9) * ((n : Int) - 9) ≤ 81 := by decide
theorem sq_le {d : Int} (h0 : -9 ≤ d) (h1 : d ≤ 9) : 0 ≤ d * d ∧ d * d ≤ 81 := by
  obtain ⟨n, hn⟩ := Int.eq_ofNat_of_zero_le (a := d + 9) (by omega)
  have := sq_nat n (by omega)
  have e : d = (n : Int) - 9 := by omega
  rw [e]; exact this
theorem sqT_le {wide high : Int} {a b : Int × Int} (w1 : wide ≤ 10) (h1 : high ≤ 10) (ha : inRoom wide high a) (hb : inRoom wide high b) : 0 ≤ sqT a b ∧ sqT a b < 200 := by
  unfold inRoom at *
  have p := sq_le (d := a.1 - b.1) (by omega) (by omega)
  have q := sq_le (d := a.2 - b.2) (by omega) (by omega)
  unfold sqT
  omega

/-- The light that a tile has from those of some windows that count. -/
def fromW (wide high : Int) (at' : Int × Int) (x : Wn) : Nat := quoL x.2.2 (sqT at' (tlW wide high x))
def qsW (wide high : Int) (at' : Int × Int) (c : Wn → Bool) (ws : List Wn) : List Nat := (ws.filter c).map (fromW wide high at')
def litW (wide high : Int) (at' : Int × Int) (c : Wn → Bool) (ws : List Wn) : Nat := sumL (qsW wide high at' c ws)
theorem qsW_hit (wide high : Int) (at' : Int × Int) (c : Wn → Bool) (ws : List Wn) (x : Wn) (h : c x = true) : qsW wide high at' c (ws ++ [x]) = qsW wide high at' c ws ++ [fromW wide high at' x] := by simp [qsW, h]
theorem qsW_miss (wide high : Int) (at' : Int × Int) (c : Wn → Bool) (ws : List Wn) (x : Wn) (h : c x = false) : qsW wide high at' c (ws ++ [x]) = qsW wide high at' c ws := by simp [qsW, h]
theorem qsW_len (wide high : Int) (at' : Int × Int) (c : Wn → Bool) (ws : List Wn) : (qsW wide high at' c ws).length ≤ ws.length := by
  have := List.length_filter_le c ws
  rw [qsW, List.length_map]
  exact this
theorem from_facts {wide high : Int} {at' : Int × Int} {x : Wn} (w0 : 1 ≤ wide) (w1 : wide ≤ 10) (h0 : 1 ≤ high) (h1 : high ≤ 10) (ha : inRoom wide high at') (h : FitOk wide high x) :
    floatBits .quo .f32 x.2.2 (floatOfInt .f32 (1 + sqT at' (tlW wide high x))) = some (fromW wide high at' x) ∧ PartOk (fromW wide high at' x) := by
  have hs := sqT_le w1 h1 ha (tlW_in w0 h0 h)
  exact quoL_facts h.part hs.1 hs.2
theorem qsW_ok {wide high : Int} {at' : Int × Int} {c : Wn → Bool} {ws : List Wn} (w0 : 1 ≤ wide) (w1 : wide ≤ 10) (h0 : 1 ≤ high) (h1 : high ≤ 10) (ha : inRoom wide high at') (h : ∀ x ∈ ws, FitOk wide high x) : ∀ q ∈ qsW wide high at' c ws, PartOk q := by
  intro q hq
  simp only [qsW, List.mem_map, List.mem_filter] at hq
  obtain ⟨x, ⟨hx, _⟩, rfl⟩ := hq
  exact (from_facts w0 w1 h0 h1 ha (h x hx)).2

end Go.Proofs.YtddnfbpgldchcaaDoor
