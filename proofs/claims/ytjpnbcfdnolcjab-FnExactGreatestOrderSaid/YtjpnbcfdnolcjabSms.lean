/-
  Sums of lists of plain numbers in several orders, means, products: each step has an answer. Nothing of the program is named.
-/
import Derived.Test.YtjpnbcfdnolcjabMag
namespace Go.Proofs.Ytjpnbcfdnolcjab
open Go

/-- A finite number whose size is at most 1048576. -/
def PlnOk (x : Nat) : Prop := isNum x ∧ mag x ≤ 1233125376
theorem zero_num : isNum 0 := .inl (by decide)
theorem mag_zero : mag 0 = 0 := rfl

theorem snoc_ind {α : Type} {Pr : List α → Prop} (h0 : Pr []) (hs : ∀ l x, Pr l → Pr (l ++ [x])) : ∀ l, Pr l := by
  intro l
  have h : ∀ n (l : List α), l.length = n → Pr l := by
    intro n
    induction n with
    | zero => intro l hl; rw [List.eq_nil_of_length_eq_zero hl]; exact h0
    | succ n ih =>
      intro l hl
      rcases List.eq_nil_or_concat l with rfl | ⟨l', x, rfl⟩
      · exact h0
      · rw [List.concat_eq_append] at hl ⊢
        exact hs l' x (ih l' (by simp at hl; omega))
  exact h _ l rfl

/-- The bound of a sum of so many plain numbers. -/
def capS : Nat → Nat
  | 0 => 0
  | k + 1 => fadd (capS k) 1233125376
theorem capS_lt : ∀ k : Nat, k < 49 → capS k < 2139095040 := by decide +kernel

/-- The sum from the first number on, beginning with 0. -/
def leftS (zs : List Nat) : Nat := zs.foldl fadd 0
theorem leftS_nil : leftS [] = 0 := rfl
theorem leftS_snoc (zs : List Nat) (q : Nat) : leftS (zs ++ [q]) = fadd (leftS zs) q := by simp [leftS]
theorem leftS_ok : ∀ zs : List Nat, (∀ z ∈ zs, PlnOk z) → zs.length ≤ 48 → isNum (leftS zs) ∧ mag (leftS zs) ≤ capS zs.length := by
  refine snoc_ind (fun _ _ => ⟨zero_num, Nat.le_refl _⟩) (fun l x ih hq hl => ?_)
  simp only [List.length_append, List.length_cons, List.length_nil] at hl ⊢
  obtain ⟨h1, h2⟩ := ih (fun q hm => hq q (by simp [hm])) (by omega)
  obtain ⟨p1, p2⟩ := hq x (by simp)
  rw [leftS_snoc]
  exact (add_mag h1 p1 h2 p2 (capS_lt _ (by omega)) (by decide) (capS_lt (l.length + 1) (by omega))).2
theorem leftS_step {l : List Nat} {q : Nat} (hq : ∀ z ∈ l, PlnOk z) (h : PlnOk q) (hl : l.length ≤ 47) : floatBits .add .f32 (leftS l) q = some (leftS (l ++ [q])) := by
  obtain ⟨h1, h2⟩ := leftS_ok l hq (by omega)
  rw [leftS_snoc]
  exact (add_mag h1 h.1 h2 h.2 (capS_lt _ (by omega)) (by decide) (capS_lt (l.length + 1) (by omega))).1
theorem take_snoc {α : Type} {zs : List α} {k : Nat} {x : α} (h : zs[k]? = some x) : zs.take (k + 1) = zs.take k ++ [x] := by
  obtain ⟨hk, rfl⟩ := List.getElem?_eq_some_iff.1 h
  exact List.take_succ_eq_append_getElem hk
theorem leftS_take {zs : List Nat} (hq : ∀ z ∈ zs, PlnOk z) (hl : zs.length ≤ 48) {k x : Nat} (h : zs[k]? = some x) : floatBits .add .f32 (leftS (zs.take k)) x = some (leftS (zs.take (k + 1))) := by
  have hk := (List.getElem?_eq_some_iff.1 h).1
  rw [take_snoc h]
  exact leftS_step (fun z hz => hq z (List.mem_of_mem_take hz)) (hq x (List.mem_of_getElem? h)) (by rw [List.length_take]; omega)

/-! ### The mean -/
theorem cnt_facts : ∀ n : Nat, n < 49 → floatOfInt .f32 (n : Int) < 2139095040 ∧ (0 < n → 1065353216 ≤ floatOfInt .f32 (n : Int)) := by decide +kernel
theorem capS_one : ∀ n : Nat, n < 49 → fdiv (capS n) 1065353216 ≤ 1283457024 := by decide +kernel
def meanS (zs : List Nat) : Nat := fdiv (leftS zs) (floatOfInt .f32 (zs.length : Int))
theorem mean_ok {zs : List Nat} (hq : ∀ z ∈ zs, PlnOk z) (h1 : 1 ≤ zs.length) (hl : zs.length ≤ 48) :
    floatBits .quo .f32 (leftS zs) (floatOfInt .f32 (zs.length : Int)) = some (meanS zs) ∧ isNum (meanS zs) ∧ mag (meanS zs) ≤ 1283457024 := by
  obtain ⟨a, b⟩ := leftS_ok zs hq hl
  obtain ⟨c, d⟩ := cnt_facts zs.length (by omega)
  have e := capS_one zs.length (by omega)
  obtain ⟨f, g, h⟩ := div_mag (B := 1065353216) a b (capS_lt _ (by omega)) c (by decide) (d (by omega)) (by omega)
  exact ⟨f, g, Nat.le_trans h e⟩

/-! ### Sums of products -/
def capD (D : Nat) : Nat → Nat
  | 0 => 0
  | k + 1 => fadd (capD D k) (fmul D D)
def dotK (xs ys : List Nat) : Nat → Nat
  | 0 => 0
  | k + 1 => fadd (dotK xs ys k) (fmul (xs.getD k 0) (ys.getD k 0))
def MagLe (D x : Nat) : Prop := isNum x ∧ mag x ≤ D
theorem dot_ok {D : Nat} (hD : D < 2139095040) (hM : fmul D D < 2139095040) (hc : ∀ k : Nat, k < 49 → capD D k < 2139095040) {xs ys : List Nat} (hx : ∀ x ∈ xs, MagLe D x) (hy : ∀ y ∈ ys, MagLe D y) (hl : xs.length ≤ 48) (he : ys.length = xs.length) :
    ∀ k, k ≤ xs.length → isNum (dotK xs ys k) ∧ mag (dotK xs ys k) ≤ capD D k
  | 0, _ => ⟨zero_num, Nat.le_refl _⟩
  | k + 1, hk => by
    obtain ⟨h1, h2⟩ := dot_ok hD hM hc hx hy hl he k (by omega)
    have a := hx (xs.getD k 0) (List.mem_of_getElem? (i := k) (by rw [List.getElem?_eq_getElem (by omega)]; simp [List.getD, show k < xs.length by omega]))
    have b := hy (ys.getD k 0) (List.mem_of_getElem? (i := k) (by rw [List.getElem?_eq_getElem (by omega)]; simp [List.getD, show k < ys.length by omega]))
    obtain ⟨_, m2, m3⟩ := mul_mag a.1 b.1 a.2 b.2 hD hD hM
    exact (add_mag h1 m2 h2 m3 (hc k (by omega)) hM (hc (k + 1) (by omega))).2
theorem dot_step {D : Nat} (hD : D < 2139095040) (hM : fmul D D < 2139095040) (hc : ∀ k : Nat, k < 49 → capD D k < 2139095040) {xs ys : List Nat} (hx : ∀ x ∈ xs, MagLe D x) (hy : ∀ y ∈ ys, MagLe D y) (hl : xs.length ≤ 48) (he : ys.length = xs.length) {k x y : Nat} (ex : xs[k]? = some x) (ey : ys[k]? = some y) :
    floatBits .mul .f32 x y = some (fmul x y) ∧ floatBits .add .f32 (dotK xs ys k) (fmul x y) = some (dotK xs ys (k + 1)) := by
  have hk := (List.getElem?_eq_some_iff.1 ex).1
  obtain ⟨h1, h2⟩ := dot_ok hD hM hc hx hy hl he k (by omega)
  have a := hx x (List.mem_of_getElem? ex)
  have b := hy y (List.mem_of_getElem? ey)
  obtain ⟨m1, m2, m3⟩ := mul_mag a.1 b.1 a.2 b.2 hD hD hM
  have e1 : xs.getD k 0 = x := by simp [List.getD, ex]
  have e2 : ys.getD k 0 = y := by simp [List.getD, ey]
  refine ⟨m1, ?_⟩
  rw [dotK, e1, e2]
  exact (add_mag h1 m2 h2 m3 (hc k (by omega)) hM (hc (k + 1) (by omega))).1
theorem capD_plain : ∀ k : Nat, k < 49 → capD 1233125376 k < 2139095040 := by decide +kernel
/-- Differences to a mean. -/
def offD : Nat := 1291845632
theorem offD_get : fadd 1233125376 1283457024 ≤ offD := by decide +kernel
theorem capD_off : ∀ k : Nat, k < 49 → capD offD k < 2139095040 := by decide +kernel
theorem off_ok {x m : Nat} (hx : PlnOk x) (hm : isNum m ∧ mag m ≤ 1283457024) : floatBits .sub .f32 x m = some (fsub x m) ∧ MagLe offD (fsub x m) := by
  have hlt : fadd 1233125376 1283457024 < 2139095040 := by decide +kernel
  obtain ⟨a, b, c⟩ := sub_mag hx.1 hm.1 hx.2 hm.2 (by decide) (by decide) hlt
  exact ⟨a, b, Nat.le_trans c offD_get⟩
theorem capD_one : ∀ n : Nat, n < 49 → fdiv (capD offD n) 1065353216 < 2139095040 := by decide +kernel
def offS (zs : List Nat) : List Nat := zs.map fun x => fsub x (meanS zs)
def sqoS (zs : List Nat) : Nat := fdiv (dotK (offS zs) (offS zs) zs.length) (floatOfInt .f32 (zs.length : Int))
theorem offS_ok {zs : List Nat} (hq : ∀ z ∈ zs, PlnOk z) (h1 : 1 ≤ zs.length) (hl : zs.length ≤ 48) : ∀ x ∈ offS zs, MagLe offD x := by
  intro x hx
  obtain ⟨z, hz, rfl⟩ := List.mem_map.1 hx
  exact (off_ok (hq z hz) (mean_ok hq h1 hl).2).2
theorem sqo_ok {zs : List Nat} (hq : ∀ z ∈ zs, PlnOk z) (h1 : 1 ≤ zs.length) (hl : zs.length ≤ 48) :
    floatBits .quo .f32 (dotK (offS zs) (offS zs) zs.length) (floatOfInt .f32 (zs.length : Int)) = some (sqoS zs) ∧ fin32 (sqoS zs) = true := by
  have el : (offS zs).length = zs.length := by simp [offS]
  have ho := offS_ok hq h1 hl
  obtain ⟨a, b⟩ := dot_ok (D := offD) (by decide) (by decide +kernel) capD_off ho ho (by omega) rfl zs.length (by omega)
  obtain ⟨c, d⟩ := cnt_facts zs.length (by omega)
  obtain ⟨f, g, _⟩ := div_mag (B := 1065353216) a b (capD_off _ (by omega)) c (by decide) (d (by omega)) (capD_one _ (by omega))
  exact ⟨f, num_fin (num_of_isNum g)⟩

/-! ### Halves -/
def pairsF : Nat → List Nat → Nat
  | 0, _ => 0
  | d + 1, zs => if zs.length = 0 then 0 else if zs.length = 1 then zs.getD 0 0 else fadd (pairsF d (zs.take (zs.length / 2))) (pairsF d (zs.drop (zs.length / 2)))
theorem pairsF_two (d : Nat) (zs : List Nat) (h : 2 ≤ zs.length) : pairsF (d + 1) zs = fadd (pairsF d (zs.take (zs.length / 2))) (pairsF d (zs.drop (zs.length / 2))) := by
  rw [pairsF, if_neg (by omega), if_neg (by omega)]
def capP (d : Nat) : Nat := 1233125376 + d * 8388608
theorem capP_add : ∀ d : Nat, d < 7 → fadd (capP d) (capP d) = capP (d + 1) ∧ capP d < 2139095040 := by decide +kernel
theorem pairsF_ok : ∀ (d : Nat) (zs : List Nat), d ≤ 6 → zs.length ≤ 2 ^ d → (∀ z ∈ zs, PlnOk z) → isNum (pairsF (d + 1) zs) ∧ mag (pairsF (d + 1) zs) ≤ capP d := by
  intro d
  induction d with
  | zero =>
    intro zs _ hl hq
    unfold pairsF
    split
    · exact ⟨zero_num, Nat.zero_le _⟩
    · rename_i h0
      have h1 : zs.length = 1 := by simp at hl; omega
      rw [if_pos h1]
      obtain ⟨a, b⟩ := hq (zs.getD 0 0) (List.mem_of_getElem? (i := 0) (by rw [List.getElem?_eq_getElem (by omega)]; simp [List.getD, h1]))
      exact ⟨a, by unfold capP; omega⟩
  | succ d ih =>
    intro zs hd hl hq
    unfold pairsF
    split
    · exact ⟨zero_num, Nat.zero_le _⟩
    · split
      · rename_i h0 h1
        obtain ⟨a, b⟩ := hq (zs.getD 0 0) (List.mem_of_getElem? (i := 0) (by rw [List.getElem?_eq_getElem (by omega)]; simp [List.getD, h1]))
        exact ⟨a, by unfold capP; omega⟩
      · rw [Nat.pow_succ] at hl
        obtain ⟨a1, a2⟩ := ih (zs.take (zs.length / 2)) (by omega) (by rw [List.length_take]; omega) (fun z hz => hq z (List.mem_of_mem_take hz))
        obtain ⟨b1, b2⟩ := ih (zs.drop (zs.length / 2)) (by omega) (by rw [List.length_drop]; omega) (fun z hz => hq z (List.mem_of_mem_drop hz))
        obtain ⟨c1, c2⟩ := capP_add d (by omega)
        have c3 : capP (d + 1) < 2139095040 := by unfold capP; omega
        have := (add_mag a1 b1 a2 b2 c2 c2 (by rw [c1]; exact c3)).2
        rw [c1] at this
        exact this
theorem pairsF_step (d : Nat) (zs : List Nat) (hd : d ≤ 5) (h2 : 2 ≤ zs.length) (hl : zs.length ≤ 2 ^ (d + 1)) (hq : ∀ z ∈ zs, PlnOk z) :
    floatBits .add .f32 (pairsF (d + 1) (zs.take (zs.length / 2))) (pairsF (d + 1) (zs.drop (zs.length / 2))) = some (pairsF (d + 2) zs) := by
  rw [Nat.pow_succ] at hl
  obtain ⟨a1, a2⟩ := pairsF_ok d (zs.take (zs.length / 2)) (by omega) (by rw [List.length_take]; omega) (fun z hz => hq z (List.mem_of_mem_take hz))
  obtain ⟨b1, b2⟩ := pairsF_ok d (zs.drop (zs.length / 2)) (by omega) (by rw [List.length_drop]; omega) (fun z hz => hq z (List.mem_of_mem_drop hz))
  obtain ⟨c1, c2⟩ := capP_add d (by omega)
  have c3 : capP (d + 1) < 2139095040 := by unfold capP; omega
  have := (add_mag a1 b1 a2 b2 c2 c2 (by rw [c1]; exact c3)).1
  rw [pairsF_two (d + 1) zs h2]
  exact this

/-! ### A sum with a rest -/
def keptY (s : Nat × Nat) (q : Nat) : Nat := fsub q s.2
def keptN (s : Nat × Nat) (q : Nat) : Nat × Nat := (fadd s.1 (keptY s q), fsub (fsub (fadd s.1 (keptY s q)) s.1) (keptY s q))
def keptS (zs : List Nat) : Nat × Nat := zs.foldl keptN (0, 0)
theorem keptS_snoc (zs : List Nat) (q : Nat) : keptS (zs ++ [q]) = keptN (keptS zs) q := by simp [keptS]
def capY (c : Nat × Nat) : Nat := fadd 1233125376 c.2
def capN (c : Nat × Nat) : Nat × Nat := (fadd c.1 (capY c), fadd (fadd (fadd c.1 (capY c)) c.1) (capY c))
def capR (c : Nat × Nat) : Nat → Nat × Nat
  | 0 => c
  | k + 1 => capN (capR c k)
def capG (c : Nat × Nat) : Bool := decide (c.1 < 2139095040) && decide (c.2 < 2139095040) && decide (capY c < 2139095040) && decide (fadd c.1 (capY c) < 2139095040) && decide (fadd (fadd c.1 (capY c)) c.1 < 2139095040) && decide (fadd (fadd (fadd c.1 (capY c)) c.1) (capY c) < 2139095040)
def capAll (c : Nat × Nat) : Nat → Bool
  | 0 => capG c
  | k + 1 => capG c && capAll (capN c) k
theorem capAll_get : ∀ (n : Nat) (c : Nat × Nat), capAll c n = true → ∀ k, k ≤ n → capG (capR c k) = true := by
  intro n
  induction n with
  | zero => intro c h k hk; obtain rfl : k = 0 := by omega
            exact h
  | succ n ih =>
    intro c h k hk
    simp only [capAll, Bool.and_eq_true] at h
    have sh : ∀ k, capR (capN c) k = capR c (k + 1) := by
      intro k
      induction k with
      | zero => rfl
      | succ k ik => rw [capR, ik]; rfl
    cases k with
    | zero => exact h.1
    | succ k => rw [← sh k]; exact ih (capN c) h.2 k (by omega)
theorem cap48 : capAll (0, 0) 47 = true := by decide +kernel
def KeptLe (s c : Nat × Nat) : Prop := isNum s.1 ∧ isNum s.2 ∧ mag s.1 ≤ c.1 ∧ mag s.2 ≤ c.2
theorem kept_facts {s c : Nat × Nat} {q : Nat} (hs : KeptLe s c) (hq : PlnOk q) (hc : capG c = true) :
    floatBits .sub .f32 q s.2 = some (keptY s q) ∧ floatBits .add .f32 s.1 (keptY s q) = some (keptN s q).1 ∧ floatBits .sub .f32 (keptN s q).1 s.1 = some (fsub (keptN s q).1 s.1) ∧ floatBits .sub .f32 (fsub (keptN s q).1 s.1) (keptY s q) = some (keptN s q).2 ∧ KeptLe (keptN s q) (capN c) := by
  simp only [capG, Bool.and_eq_true, decide_eq_true_eq] at hc
  obtain ⟨⟨⟨⟨⟨c1, c2⟩, c3⟩, c4⟩, c5⟩, c6⟩ := hc
  obtain ⟨s1, s2, m1, m2⟩ := hs
  obtain ⟨a1, a2, a3⟩ := sub_mag hq.1 s2 hq.2 m2 (by decide) c2 c3
  obtain ⟨b1, b2, b3⟩ := add_mag s1 a2 m1 a3 c1 c3 c4
  obtain ⟨d1, d2, d3⟩ := sub_mag b2 s1 b3 m1 c4 c1 c5
  obtain ⟨e1, e2, e3⟩ := sub_mag d2 a2 d3 a3 c5 c3 c6
  exact ⟨a1, b1, d1, e1, b2, e2, b3, e3⟩
theorem keptS_ok : ∀ zs : List Nat, (∀ z ∈ zs, PlnOk z) → zs.length ≤ 48 → KeptLe (keptS zs) (capR (0, 0) zs.length) := by
  refine snoc_ind (fun _ _ => ⟨zero_num, zero_num, Nat.le_refl _, Nat.le_refl _⟩) (fun l x ih hq hl => ?_)
  simp only [List.length_append, List.length_cons, List.length_nil] at hl ⊢
  have h1 := ih (fun q hm => hq q (by simp [hm])) (by omega)
  rw [keptS_snoc]
  exact (kept_facts h1 (hq x (by simp)) (capAll_get 47 _ cap48 _ (by omega))).2.2.2.2
theorem keptS_take {zs : List Nat} (hq : ∀ z ∈ zs, PlnOk z) (hl : zs.length ≤ 48) {k x : Nat} (h : zs[k]? = some x) :
    floatBits .sub .f32 x (keptS (zs.take k)).2 = some (keptY (keptS (zs.take k)) x) ∧ floatBits .add .f32 (keptS (zs.take k)).1 (keptY (keptS (zs.take k)) x) = some (keptS (zs.take (k + 1))).1 ∧ floatBits .sub .f32 (keptS (zs.take (k + 1))).1 (keptS (zs.take k)).1 = some (fsub (keptS (zs.take (k + 1))).1 (keptS (zs.take k)).1) ∧ floatBits .sub .f32 (fsub (keptS (zs.take (k + 1))).1 (keptS (zs.take k)).1) (keptY (keptS (zs.take k)) x) = some (keptS (zs.take (k + 1))).2 := by
  have hk := (List.getElem?_eq_some_iff.1 h).1
  have h1 := keptS_ok (zs.take k) (fun z hz => hq z (List.mem_of_mem_take hz)) (by rw [List.length_take]; omega)
  obtain ⟨a, b, c, d, _⟩ := kept_facts h1 (hq x (List.mem_of_getElem? h)) (capAll_get 47 _ cap48 _ (by rw [List.length_take]; omega))
  rw [take_snoc h, keptS_snoc]
  exact ⟨a, b, c, d⟩
theorem num_finN {x : Nat} (h : isNum x) : fin32 x = true := num_fin (num_of_isNum h)

end Go.Proofs.Ytjpnbcfdnolcjab
