/-
  SbS, LawC, SbL, SpA, SpC, SpD, SpP, SpQ.
-/
import Derived.OwnWalk
import Derived.Laws.AppendOwn
import Derived.Maps.AppendAt
import Derived.Test.YtckkemknajggpaaGreatDoorMp2
import Derived.Test.YtckkemknajggpaaGreatDoorSuitS
import Derived.Test.YtckkemknajggpaaGreatDoorRows
import Derived.Test.YtckkemknajggpaaGreatDoorLaw
import Derived.Test.YtckkemknajggpaaGreatDoorMp1
import Derived.WalkKit
import Derived.ProofKit
import Derived.OpenShut
import Derived.ChangeVars
import Derived.JoinedOf
import Derived.LaidLaws
import Derived.Stop.Joined
import Derived.OpenVars
import Derived.Test.YtckkemknajggpaaGreatDoorRoomE
import Derived.Test.YtckkemknajggpaaGreatDoorRoomK
import Derived.Test.YtckkemknajggpaaGreatDoorSameN
import Derived.Lib.Hide

namespace Go.Proofs.YtckkemknajggpaaGreatDoor
open Go.RowKit Go.Deep

attribute [local go_sem] run_store_f

theorem grown_belowS {w w' : World} (h : Below w.heap.size w w') (row : Option Nat) : w.grownBy w' row := ⟨h.os, h.tape, h.output, h.size, fun k hk _ => h.block k hk⟩

theorem owns_belowS {W w1 : World} {base k : Nat} {e : TypeId} {v : Value} {xs : List Value} (h : W.ownsRow base e 1 v k xs) (hb : Below W.heap.size W w1) : w1.ownsRow base e 1 v k xs :=
  h.kept (grown_belowS hb none) (by cases v.ownBlock <;> simp)

theorem own_of_rowS {α : Type} {W : World} {base : Nat} {e : TypeId} {mk : α → Value} {v : Value} {xs : List α} (h : W.ownsRow base e 1 v xs.length (xs.map mk)) (_ : xs.length ≤ maxLen) : Own W base e mk v xs := by
  rcases h.2 with ⟨rfl, hz⟩ | ⟨g, cap, cur, rfl, hbg, hg, hnc, hcm, hsz, htk⟩
  · exact ⟨none, 0, by rw [hz], Nat.zero_le _, by omega, .inl ⟨rfl, List.eq_nil_of_length_eq_zero hz⟩⟩
  · refine ⟨_, cap, rfl, hcm, hnc, .inr ⟨g, cur, rfl, hbg, hg, fun k hk => ?_⟩⟩
    have h1 : (cur.toList.take (xs.length * 1))[k]? = cur[k]? := by
      rw [List.getElem?_take_of_lt (by omega), Array.getElem?_toList]
    rw [← h1, htk, List.getElem?_map]

theorem row_baseS {W : World} {base k : Nat} {e : TypeId} {v : Value} {xs : List Value} (h : W.ownsRow base e 1 v k xs) : ∀ j, v.ownBlock = some j → base ≤ j := fun j e => (h.lt j e).1

/-- What the model gives back with a code. -/
structure SbAns (pall : Bool) (cd : Int) (np : Nat) (c : Int) (xs zs : List Int) : Prop where
  bad : pall = false → c = 1 ∧ xs = []
  code : pall = true → cd ≠ 0 → c = cd ∧ xs = []
  many : pall = true → cd = 0 → 8 < np → c = 3 ∧ xs = []
  fine : pall = true → cd = 0 → np ≤ 8 → c = 0 ∧ xs = zs

set_option maxRecDepth 100000 in
set_option maxHeartbeats 16000000 in
theorem l03Bits_any (wd hg : Int) (iw : I8 wd) (ih : I8 hg) (sv dv pv : Value) (ws : List Wn) (hwf : ∀ x ∈ ws, WnWf x) (ds : List Dk) (hdf : ∀ x ∈ ds, DkWf x) (ps : List Pn) (c : Int) (xs : List Int) (hans : SbAns (ps.all fitP) (codeD (okRm wd hg ws) (true && ds.all (fitD wd hg)) ds.length) ps.length c xs (ds.map (sbD wd hg ws ps))) (gb : Nat) (T : TypeId) (fr : Nat × Nat) (w : World) (hb0 : w.heap[gb]? = some (.cells (roomC wd hg sv) T fr)) (hws : WinsAt w sv ws) (hds : DksAt w dv ds) (hps : PnsAt w pv ps) :
    Calls Tryz.prog 22 #[.pointer (some ⟨gb, 0, none⟩), dv, pv] w fun e w' => (∃ v, e = .returned (.tuple #[v, .int .i64 c]) ∧ Own w' w.heap.size 60 (Value.int .u16) v xs) ∧ Below w.heap.size w w' := by
  obtain ⟨i0, hin, hz0, hz1, hz2⟩ := info_parts info_u16z
  have HDS := Lib.hid (fun V h1 h2 h3 => l03Desks_any wd hg iw ih sv dv ws hwf ds hdf true gb T fr V h1 h2 h3)
  have HSU : Hid (codeD (okRm wd hg ws) (true && ds.all (fitD wd hg)) ds.length = 0 → ∀ (x : Dk), x ∈ ds → ∀ (m : Nat) (y : Pn), ps[m]? = some y → ∀ V, V.heap[gb]? = some (.cells (roomC wd hg sv) T fr) → WinsAt V sv ws → Calls Tryz.prog 37 #[.pointer (some ⟨gb, 0, none⟩), .agg (dkC x), .agg (pnC y)] V fun e w' => e = .returned (.bool (suL (litW wd hg (x.1, x.2.1) (fun _ => true) ws) (litW wd hg (x.1, x.2.1) (glW wd hg x.1 x.2.1 x.2.2) ws) ps m)) ∧ Below V.heap.size V w') := Lib.hid (fun hc x hx m y hy V h1 h2 => by
    have h3 : okRm wd hg ws = true ∧ ds.all (fitD wd hg) = true := by
      unfold codeD at hc
      cases h1 : okRm wd hg ws <;> cases h2 : ds.all (fitD wd hg) <;> rw [h1, h2] at hc <;> simp at hc
      exact ⟨rfl, rfl⟩
    obtain ⟨f1, f2, f3⟩ := fitD_get (List.all_eq_true.1 h3.2 x hx)
    have := l03Suits_any wd hg sv ws (okRm_get h3.1) hwf x.1 x.2.1 x.2.2 f1 y.1 y.2.1 y.2.2 gb T fr V h1 h2
    unfold suL
    rw [hy]
    exact this)
  have HN8 : Hid (codeD (okRm wd hg ws) (true && ds.all (fitD wd hg)) ds.length = 0 → ds.length ≤ 8) := Lib.hid (fun hc => by
    unfold codeD at hc
    generalize ds.length = n at *
    cases h1 : okRm wd hg ws <;> cases h2 : ds.all (fitD wd hg) <;> rw [h1, h2] at hc <;> simp at hc
    omega)
  have HAN := Lib.hid hans
  have HB := Lib.hid hb0
  have HW := Lib.hid hws
  have HDK := Lib.hid hds
  have HPN := Lib.hid hps
  have hFF : ∀ x, sbD wd hg ws ps x = pbN (suL (litW wd hg (x.1, x.2.1) (fun _ => true) ws) (litW wd hg (x.1, x.2.1) (glW wd hg x.1 x.2.1 x.2.2) ws) ps) ps.length := fun x => rfl
  obtain ⟨da, dc, rfl, hdl1, hdl2, -⟩ := hds
  obtain ⟨pa, pc, rfl, hpl1, hpl2, -⟩ := hps
  unfold maxLen at hdl2 hpl2
  clear hans hb0 hws iw ih hwf hdf
  generalize codeD (okRm wd hg ws) (true && ds.all (fitD wd hg)) ds.length = cd at *
  obtain ⟨QF, hQF⟩ : ∃ QF : Dk → Nat → Bool, QF = fun x => suL (litW wd hg (x.1, x.2.1) (fun _ => true) ws) (litW wd hg (x.1, x.2.1) (glW wd hg x.1 x.2.1 x.2.2) ws) ps := ⟨_, rfl⟩
  have HSU2 : Hid (cd = 0 → ∀ (x : Dk), x ∈ ds → ∀ (m : Nat) (y : Pn), ps[m]? = some y → ∀ V, V.heap[gb]? = some (.cells (roomC wd hg sv) T fr) → WinsAt V sv ws → Calls Tryz.prog 37 #[.pointer (some ⟨gb, 0, none⟩), .agg (dkC x), .agg (pnC y)] V fun e w' => e = .returned (.bool (QF x m)) ∧ Below V.heap.size V w') := Lib.hid (by rw [hQF]; exact HSU.out)
  have HFF : Hid (∀ x, sbD wd hg ws ps x = pbN (QF x) ps.length) := Lib.hid (by rw [hQF]; exact hFF)
  clear HSU hFF hQF
  generalize sbD wd hg ws ps = F at *
  generalize hnd : ds.length = nd at *
  have HND := Lib.hid hnd
  generalize hnp : ps.length = np at *
  have HNP := Lib.hid hnp
  clear hnd hnp
  go_enter Tryz.func22, Tryz.ntmps22
  go_wp2
  have hrow0 : (w.alloc (.cells #[] 60)).ownsRow w.heap.size 60 1 (.slice (some ⟨w.heap.size, 0, none⟩) 0 0) 0 [] := World.ownsRow_made _ _ _ (Nat.le_refl _) (Nat.zero_le _) rfl
  have HR0 := Lib.hid hrow0
  clear hrow0
  go_loopw [9] (fun i wr => ∃ k : Nat, k ≤ np ∧ i = .int .i64 (k : Int) ∧ (ps.take k).all fitP = true ∧ wr.ownsRow w.heap.size 60 1 (.slice (some ⟨w.heap.size, 0, none⟩) 0 0) 0 [] ∧ Below w.heap.size w wr) (fun i _ => np - (intOf i).toNat)
  case atStart => exact ⟨0, Nat.zero_le _, rfl, rfl, HR0.out, (Below.refl _ _).alloc (Nat.le_refl _) _⟩
  case round =>
    clear HR0
    obtain ⟨k, hk, rfl, hall, hrow, hb⟩ := hrel
    have HALL := Lib.hid hall
    have HROW := Lib.hid hrow
    clear hall hrow
    by_cases hlt : k < np
    · have hx : ps[k]? = some (ps[k]'(by rw [HNP.out]; exact hlt)) := List.getElem?_eq_getElem _
      obtain ⟨g, o, rfl, hc⟩ := pn_at (pns_below HPN.out hb) hx
      have HCl := Lib.hid hc
      have hts : ps.take (k + 1) = ps.take k ++ [ps[k]'(by rw [HNP.out]; exact hlt)] := by rw [List.take_succ_eq_append_getElem]
      generalize (ps[k]'(by rw [HNP.out]; exact hlt)) = x at *
      have HTS := Lib.hid hts
      have HXM := Lib.hid (List.mem_of_getElem? hx)
      have z1 : (k : Int) < (np : Int) := by omega
      have z2 : (0 : Int) ≤ (k : Int) := by omega
      clear hc hx hts
      cases hf : fitP x with
      | true =>
        have HF := Lib.hid hf
        have HVP := Lib.hid (fun V => specValidPerson_any x.1 x.2.1 x.2.2 V)
        have HVP2 : Hid (∀ V, Calls Tryz.prog 35 #[.agg (pnC x)] V fun e w' => e = .returned (.bool true) ∧ Below V.heap.size V w') := Lib.hid (fun V => by have := HVP.out V; rw [show okPe x.1 x.2.1 x.2.2 = true from HF.out] at this; exact this)
        clear hf HVP
        go_wp2_with (first | (refine wpList_load_cells rfl 72 _ rfl g (o + k * 3) 3 rfl _ Tryz.underlying72 rfl info_pers (pnC x) rfl HCl.out ?_) | (go_at_call 35; refine (HVP2.out _).mono ?_; rintro e W1 ⟨rfl, hb1⟩))
        go_roundw
        case rel => exact ⟨k + 1, by omega, by go_num, by rw [HTS.out, List.all_append, HALL.out]; simp [HF.out], owns_belowS HROW.out hb1, hb.trans (hb1.mono hb.size)⟩
        case measure => simp [intOf]; omega
      | false =>
        have HF := Lib.hid hf
        have HVP := Lib.hid (fun V => specValidPerson_any x.1 x.2.1 x.2.2 V)
        have HVP2 : Hid (∀ V, Calls Tryz.prog 35 #[.agg (pnC x)] V fun e w' => e = .returned (.bool false) ∧ Below V.heap.size V w') := Lib.hid (fun V => by have := HVP.out V; rw [show okPe x.1 x.2.1 x.2.2 = false from HF.out] at this; exact this)
        have HBD := Lib.hid (HAN.out.bad (by
          rw [Bool.eq_false_iff]
          intro ha
          have := List.all_eq_true.1 ha x HXM.out
          rw [HF.out] at this; cases this))
        clear hf HVP
        go_wp2_with (first | (refine wpList_load_cells rfl 72 _ rfl g (o + k * 3) 3 rfl _ Tryz.underlying72 rfl info_pers (pnC x) rfl HCl.out ?_) | (go_at_call 35; refine (HVP2.out _).mono ?_; rintro e W1 ⟨rfl, hb1⟩))
        go_ret2
        rw [HBD.out.1, HBD.out.2]
        exact ⟨⟨_, rfl, own_of_rowS (xs := ([] : List Int)) (owns_belowS HROW.out hb1) (by simp)⟩, hb.trans (hb1.mono hb.size)⟩
    · obtain rfl : k = np := by omega
      have hpall : ps.all fitP = true := by have := HALL.out; rwa [List.take_of_length_le (by rw [HNP.out]; exact Nat.le_refl _)] at this
      have HPA := Lib.hid hpall
      clear hpall
      have HDX := Lib.hid (HDS.out wr (below_row hb HB.out) (wins_below HW.out hb) (dks_below HDK.out hb))
      clear HDS HALL
      by_cases hbadc : ¬ (cd = 0 ∧ k ≤ 8)
      · have HCX : Hid ((cd ≠ 0 ∧ c = cd ∧ xs = []) ∨ (cd = 0 ∧ 8 < k ∧ c = 3 ∧ xs = [])) := Lib.hid (by
          by_cases h0 : cd = 0
          · have h8 : 8 < k := by
              apply Classical.byContradiction
              intro h; exact hbadc ⟨h0, by omega⟩
            exact .inr ⟨h0, h8, HAN.out.many HPA.out h0 h8⟩
          · exact .inl ⟨h0, HAN.out.code HPA.out h0⟩)
        clear hbadc
        rcases HCX.out with ⟨h0, rfl, hxs⟩ | ⟨h0, h8, rfl, hxs⟩
        · have zc : (c == 0) = false := by simpa using h0
          have HXS := Lib.hid hxs
          clear hxs HCX HAN
          go_upto_region 11 with (go_at_call 36; refine HDX.out.mono ?_; rintro e W1 ⟨rfl, hb1⟩; have HROW1 := Lib.hid (owns_belowS HROW.out hb1); replace hb := hb.trans (hb1.mono hb.size); clear hb1)
          go_loopw [8, 11] (fun o i wx => o = .slice (some ⟨w.heap.size, 0, none⟩) 0 0 ∧ i = .int .i64 0 ∧ wx.ownsRow w.heap.size 60 1 (.slice (some ⟨w.heap.size, 0, none⟩) 0 0) 0 [] ∧ Below w.heap.size w wx) (fun _ _ _ => 0)
          case atStart => exact ⟨rfl, rfl, HROW1.out, hb⟩
          case round =>
            obtain ⟨rfl, rfl, hrw, hbx⟩ := hrel
            have HRW := Lib.hid hrw
            clear hrw
            by_cases hz : (0 : Int) < (nd : Int)
            · go_wp2
              go_ret2
              rw [HXS.out]
              exact ⟨⟨_, rfl, own_of_rowS (xs := ([] : List Int)) HRW.out (by simp)⟩, hbx⟩
            · go_wp2
              go_ret2
              rw [HXS.out]
              exact ⟨⟨_, rfl, own_of_rowS (xs := ([] : List Int)) HRW.out (by simp)⟩, hbx⟩
        · subst h0
          have z8 : (8 : Int) < (k : Int) := by omega
          have HXS := Lib.hid hxs
          clear hxs HCX HAN
          go_upto_region 11 with (go_at_call 36; refine HDX.out.mono ?_; rintro e W1 ⟨rfl, hb1⟩; have HROW1 := Lib.hid (owns_belowS HROW.out hb1); replace hb := hb.trans (hb1.mono hb.size); clear hb1)
          go_loopw [8, 11] (fun o i wx => o = .slice (some ⟨w.heap.size, 0, none⟩) 0 0 ∧ i = .int .i64 0 ∧ wx.ownsRow w.heap.size 60 1 (.slice (some ⟨w.heap.size, 0, none⟩) 0 0) 0 [] ∧ Below w.heap.size w wx) (fun _ _ _ => 0)
          case atStart => exact ⟨rfl, rfl, HROW1.out, hb⟩
          case round =>
            obtain ⟨rfl, rfl, hrw, hbx⟩ := hrel
            have HRW := Lib.hid hrw
            clear hrw
            by_cases hz : (0 : Int) < (nd : Int)
            · go_wp2
              go_ret2
              rw [HXS.out]
              exact ⟨⟨_, rfl, own_of_rowS (xs := ([] : List Int)) HRW.out (by simp)⟩, hbx⟩
            · go_wp2
              go_ret2
              rw [HXS.out]
              exact ⟨⟨_, rfl, own_of_rowS (xs := ([] : List Int)) HRW.out (by simp)⟩, hbx⟩
      · obtain ⟨h0, h8⟩ : cd = 0 ∧ k ≤ 8 := by
          apply Classical.byContradiction
          exact hbadc
        clear hbadc
        subst h0
        obtain ⟨hc0, hxs⟩ := HAN.out.fine HPA.out rfl h8
        subst hc0
        have HXS := Lib.hid hxs
        have HSX := Lib.hid (HSU2.out rfl)
        have z9 : nd ≤ 8 := HN8.out rfl
        have z8 : (k : Int) ≤ 8 := by omega
        have z8' : ¬ (8 : Int) < (k : Int) := by omega
        clear hxs HAN HSU2
        go_upto_region 11 with (go_at_call 36; refine HDX.out.mono ?_; rintro e W1 ⟨rfl, hb1⟩; have HROW1 := Lib.hid (owns_belowS HROW.out hb1); replace hb := hb.trans (hb1.mono hb.size); clear hb1)
        clear HROW HDX
        go_loopw [8, 11] (fun o i wx => ∃ (vo : Value) (j : Nat), vo = o ∧ j ≤ nd ∧ i = .int .i64 (j : Int) ∧ wx.ownsRow w.heap.size 60 1 o ((ds.take j).map F).length (((ds.take j).map F).map (Value.int .u16)) ∧ Below w.heap.size w wx) (fun _ i _ => nd - (intOf i).toNat)
        case atStart => exact ⟨_, 0, rfl, Nat.zero_le _, rfl, HROW1.out, hb⟩
        case round =>
          clear HROW1 hb
          obtain ⟨vo, j, rfl, hj, rfl, hrow, hb⟩ := hrel
          have HROW := Lib.hid hrow
          clear hrow
          obtain ⟨wo, rfl⟩ : ∃ wo : World, wo = wr := ⟨_, rfl⟩
          by_cases hlt2 : j < nd
          · have hx : ds[j]? = some (ds[j]'(by rw [HND.out]; exact hlt2)) := List.getElem?_eq_getElem _
            obtain ⟨g, o, rfl, hc⟩ := dk_at (dks_below HDK.out hb) hx
            have hts : ds.take (j + 1) = ds.take j ++ [ds[j]'(by rw [HND.out]; exact hlt2)] := by rw [List.take_succ_eq_append_getElem]
            generalize (ds[j]'(by rw [HND.out]; exact hlt2)) = x at *
            have HXM := Lib.hid (List.mem_of_getElem? hx)
            have HDX := Lib.hid hx
            have hlj : ((ds.take j).map F).length = j := by rw [List.length_map, List.length_take, HND.out]; omega
            have HTS : Hid ((ds.take (j + 1)).map F = (ds.take j).map F ++ [F x]) := Lib.hid (by rw [hts, List.map_append]; rfl)
            have z1 : (j : Int) < (nd : Int) := by omega
            have z2 : (0 : Int) ≤ (j : Int) := by omega
            have z3 : IntKind.i64.wrap ((j : Int) + 1) = (j : Int) + 1 := by rw [IntWalk.i64_in _ (by omega)]
            have HSY0 := Lib.hid (HSX.out x HXM.out)
            have HFX := Lib.hid (HFF.out x)
            clear hc hx hts HSX
            generalize QF x = q at *
            go_upto_region 15 with (fail)
            go_loopw [12, 13] (fun b i2 w2 => ∃ m : Nat, m ≤ k ∧ i2 = .int .i64 (m : Int) ∧ b = .int .u16 (pbN q m) ∧ w2.ownsRow w.heap.size 60 1 vo ((ds.take j).map F).length (((ds.take j).map F).map (Value.int .u16)) ∧ Below w.heap.size w w2) (fun _ i2 _ => k - (intOf i2).toNat)
            case atStart => exact ⟨0, Nat.zero_le _, rfl, rfl, HROW.out, hb⟩
            case round =>
              clear HROW hb
              obtain ⟨m, hm, rfl, rfl, hrow, hb⟩ := hrel
              have HROW := Lib.hid hrow
              clear hrow
              by_cases hlt3 : m < k
              · have hy : ps[m]? = some (ps[m]'(by rw [HNP.out]; exact hlt3)) := List.getElem?_eq_getElem _
                obtain ⟨g2, o2, rfl, hcp⟩ := pn_at (pns_below HPN.out hb) hy
                generalize (ps[m]'(by rw [HNP.out]; exact hlt3)) = y at *
                obtain ⟨g', o', eg, hcd⟩ := dk_at (dks_below HDK.out hb) HDX.out
                injection eg with eg
                injection eg with eg1 eg2 _
                subst eg1 eg2
                have HCl := Lib.hid hcd
                have HCp := Lib.hid hcp
                have HSY := Lib.hid (HSY0.out m y hy)
                have H0 := Lib.hid (below_row hb HB.out)
                have HV := Lib.hid (wins_below HW.out hb)
                have y1 : (m : Int) < (k : Int) := by omega
                have y2 : (0 : Int) ≤ (m : Int) := by omega
                have y3 : IntKind.u64.wrap (m : Int) = (m : Int) := by rw [IntWalk.u64_in _ (by omega)]
                have y4 : (m : Int) ≤ 16 := by omega
                have hpw := pow16S (show m < 10 by omega)
                have hpw2 : (2 : Int) ^ m % 65536 = (2 : Int) ^ m := hpw
                clear hcd hcp hy
                go_upto_region 17 with (fail)
                refine wp_region_held_drew (S := (fun V => Below wr.heap.size wr V)) (by kernel_rfl) ((Below.refl _ _).drew) (fun hHeld => ?_)
                refine take_op (i := 0) (d := 54) (v := ?_) rfl rfl (by kernel_rfl) (by kernel_rfl) (by kernel_rfl) (fun _ _ _ h => h) (Or.inl ⟨by rfl, ?hy0y61⟩) hHeld ?rest0y61
                case hy0y61 =>
                  intro w' hS'
                  go_simp
                  try with_reducible rfl
                simp only [List.setIfInBounds_toArray, List.set_cons_zero, List.set_cons_succ]
                refine take_op (i := 1) (d := 55) (v := ?_) rfl rfl (by kernel_rfl) (by kernel_rfl) (by kernel_rfl) (fun _ _ _ h => h) (Or.inl ⟨by rfl, ?hy1y62⟩) hHeld ?rest1y62
                case hy1y62 =>
                  intro w' hS'
                  go_simp
                  try with_reducible rfl
                simp only [List.setIfInBounds_toArray, List.set_cons_zero, List.set_cons_succ]
                refine take_op (i := 2) (d := 56) (v := ?_) rfl rfl (by kernel_rfl) (by kernel_rfl) (by kernel_rfl) (fun _ _ _ h => h) (Or.inl ⟨by rfl, ?hy2y63⟩) hHeld ?rest2y63
                case hy2y63 =>
                  intro w' hS'
                  go_simp
                  try with_reducible rfl
                simp only [List.setIfInBounds_toArray, List.set_cons_zero, List.set_cons_succ]
                refine take_op (i := 3) (d := 57) (v := ?_) rfl rfl (by kernel_rfl) (by kernel_rfl) (by kernel_rfl) (fun _ _ _ h => h) (Or.inl ⟨by rfl, ?hy3y64⟩) hHeld ?rest3y64
                case hy3y64 =>
                  intro w' hS'
                  go_simp
                  try with_reducible rfl
                simp only [List.setIfInBounds_toArray, List.set_cons_zero, List.set_cons_succ]
                refine take_op (i := 4) (d := 58) (v := .agg (dkC x)) rfl rfl (by kernel_rfl) (by kernel_rfl) (by kernel_rfl) (fun _ _ _ h => h) (yields_cells (by rfl) 65 (.tmp 57) (by rfl) g (o + j * 3) 3 (by rfl) _ Tryz.underlying65 rfl info_desk (dkC x) rfl (fun V h => fun jj vv hv => cell_below h (HCl.out jj vv hv))) hHeld ?_
                simp only [List.setIfInBounds_toArray, List.set_cons_zero, List.set_cons_succ]
                refine take_op (i := 5) (d := 59) (v := ?_) rfl rfl (by kernel_rfl) (by kernel_rfl) (by kernel_rfl) (fun _ _ _ h => h) (Or.inl ⟨by rfl, ?hy5y65⟩) hHeld ?rest5y65
                case hy5y65 =>
                  intro w' hS'
                  go_simp
                  try with_reducible rfl
                simp only [List.setIfInBounds_toArray, List.set_cons_zero, List.set_cons_succ]
                refine take_op (i := 6) (d := 60) (v := ?_) rfl rfl (by kernel_rfl) (by kernel_rfl) (by kernel_rfl) (fun _ _ _ h => h) (Or.inl ⟨by rfl, ?hy6y66⟩) hHeld ?rest6y66
                case hy6y66 =>
                  intro w' hS'
                  go_simp
                  try with_reducible rfl
                simp only [List.setIfInBounds_toArray, List.set_cons_zero, List.set_cons_succ]
                refine take_op (i := 7) (d := 61) (v := ?_) rfl rfl (by kernel_rfl) (by kernel_rfl) (by kernel_rfl) (fun _ _ _ h => h) (Or.inl ⟨by rfl, ?hy7y67⟩) hHeld ?rest7y67
                case hy7y67 =>
                  intro w' hS'
                  go_simp
                  try with_reducible rfl
                simp only [List.setIfInBounds_toArray, List.set_cons_zero, List.set_cons_succ]
                refine take_op (i := 8) (d := 62) (v := .agg (pnC y)) rfl rfl (by kernel_rfl) (by kernel_rfl) (by kernel_rfl) (fun _ _ _ h => h) (yields_cells (by rfl) 72 (.tmp 61) (by rfl) g2 (o2 + m * 3) 3 (by rfl) _ Tryz.underlying72 rfl info_pers (pnC y) rfl (fun V h => fun jj vv hv => cell_below h (HCp.out jj vv hv))) hHeld ?_
                simp only [List.setIfInBounds_toArray, List.set_cons_zero, List.set_cons_succ]
                refine wpAnyH_ready (rs := [9]) (by kernel_rfl) (by simp) ?_
                refine AllReadyH.cons rfl (fun K hK => ?_) AllReadyH.nil
                go_simp
                refine (HSY.out _ (below_row hHeld H0.out) (wins_below HV.out hHeld)).mono ?_
                rintro e W5 ⟨rfl, hb5⟩
                refine hK.out _ _ (hHeld.trans (hb5.mono hHeld.size)) (fun hHeld2 => ?_)
                clear hK K
                replace hHeld := hHeld2
                clear hHeld2
                clear hb5
                refine wpAnyH_done (by kernel_rfl) ?_ _
                have HROW5 := Lib.hid (owns_belowS HROW.out hHeld)
                have hb5 := hb.trans (hHeld.mono hb.size)
                clear hHeld HCl HCp H0 HV
                cases hq : q m with
                | true =>
                  have HE := Lib.hid (pbN_hit hq)
                  go_wp2
                  go_roundw
                  case rel => exact ⟨m + 1, by omega, by go_num, by rw [HE.out], HROW5.out, hb5⟩
                  case measure => simp [intOf]; omega
                | false =>
                  have HE := Lib.hid (pbN_miss hq)
                  go_wp2
                  go_roundw
                  case rel => exact ⟨m + 1, by omega, by go_num, by rw [HE.out], HROW5.out, hb5⟩
                  case measure => simp [intOf]; omega
              · obtain rfl : m = k := by omega
                have hrow := HROW.out
                have hsz := hb.size
                go_wp2_with (at_builtin; go_loud (refine wpList_append_own _ rfl _ _ 52 rfl w.heap.size 60 i0 (.int .u16 0) 1 2 Tryz.underlying52 hin hz0 hz1 hz2 rfl (by decide) _ _ _ rfl (hrow.alloc _) ⟨wr.heap.size, 0, none⟩ 1 1 [.int .u16 (pbN q m)] rfl rfl (cell_one_new _ _ _) (by simp [Value.oneCell']) (by unfold maxLen; omega) (by omega) (by simp; omega) ?_; intro v' w1 hown' hgrow _))
                go_roundw
                case rel => exact ⟨_, j + 1, rfl, by omega, by first | (simp; done) | (simp; omega), by rw [HTS.out, HFX.out]; simpa using hown', (hb.alloc (by omega) _).grown hgrow (by simp; omega) (row_baseS hrow)⟩
                case measure => simp [intOf]; omega
          · obtain rfl : j = nd := by omega
            have HXS2 : Hid (xs = (ds.take j).map F) := Lib.hid (by rw [HXS.out, List.take_of_length_le (by rw [HND.out]; exact Nat.le_refl _)])
            have hlj : ((ds.take j).map F).length = j := by rw [List.length_map, List.length_take, HND.out]; omega
            have HR2 : Hid (Own wo w.heap.size 60 (Value.int .u16) vo ((ds.take j).map F)) := own_of_rowS HROW.out (by unfold maxLen; omega)
            clear HROW
            go_wp2
            go_ret2
            rw [HXS2.out]
            exact ⟨⟨_, rfl, HR2.out⟩, hb⟩

end Go.Proofs.YtckkemknajggpaaGreatDoor

namespace Go.Proofs.YtckkemknajggpaaGreatDoor
open Go.ChangeShapes Go.WideShapes Go.ChangeAt Go.RowKit

set_option maxRecDepth 100000 in
theorem door_met (os : Os) (args : Array Value) : laidMetH Tryz.prog lst ((World.doorLaid Tryz.prog 200 os).forCall (fun _ _ => 0) ⟨#[], args, []⟩).memory :=
  laidMetH_of_parts3 (fuel := 8) (laidMet_of_run' 8 (by kernel_rfl) (by kernel_rfl)) (by kernel_rfl) (by kernel_rfl)

set_option maxRecDepth 100000 in
theorem door_shaped (os : Os) : (World.doorLaid Tryz.prog 200 os).Shaped Tryz.prog := World.shaped_of_RefB (by kernel_rfl) (by kernel_rfl)

/-- The condition of a row that lists the sentinels. -/
abbrev Met (w : World) (_ : Array Value) : Prop := laidMetH Tryz.prog lst w

set_option maxRecDepth 100000 in
theorem law_liftedC (F : FuncId) (fn : Func) (s : ChangeSpec) (conds : List PathCond) (os : Os) (started : os.Started) (H : Type) (enc : TypeId × Value → H)
    (hno : Tryz.checked.prog.inits.idxOf? F = none) (hfn : Tryz.checked.prog.funcs[F]? = some fn) (hv : varsRowed Tryz.prog s.vars = true) (hvl : s.vars.length = 4) (hr : fn.resultTypes = #[4])
    (hts : ∀ t ∈ fn.params.toList, Tryz.prog.readableRec t = true ∧ t < Tryz.prog.types.size)
    (hspec : ∀ ds gs : List (DataW H), ds.length = fn.params.size → gs.length = 4 → s.fn H (ds ++ gs) = { results := [.lit (.bool true)], args := ds, vars := gs })
    (wit : ∃ (w : World) (tape : Tape) (i : Input), w.os = os ∧ (w.forCall tape i).Shaped Tryz.checked.prog ∧ i.vars = [] ∧ Input.okWide Tryz.checked.prog (w.forCall tape i) .any w.heap.size F i ∧
      ((s.pre enc Tryz.checked.prog fn conds false (w.forCall tape i).memory i.args ∧ Met (w.forCall tape i).memory i.args) ∧ sizedMet enc Tryz.checked.prog fn (OpenSpec.ofChange s) false (w.forCall tape i).memory i.args) ∧ ({} : Assume).holds Tryz.checked.prog (lone (Frame.enter Tryz.checked.prog F i.args .normal) [] (w.forCall tape i)))
    (walk : ∀ (W : World) (base : Nat) (args : Array Value) (ds : List (DataW H)) (p : List MemPlace),
      (∀ (j : Nat) t v, fn.params[j]? = some t → args[j]? = some v → Value.okWide Tryz.prog W .any base t v) →
      DataW.TrodAll enc Tryz.prog W 0 (fun _ => true) true fn.params.toList args.toList ds p → laidMetH Tryz.prog lst W →
      Calls Tryz.prog F args W fun e W' => e = .returned (.bool true) ∧ Below W.heap.size W W') :
    ReturnsInHanded {} Tryz.checked os F .any (fun w args => (s.pre enc Tryz.prog fn conds false w args ∧ laidMetH Tryz.prog lst w) ∧ sizedMet enc Tryz.prog fn (OpenSpec.ofChange s) false w args) (s.post enc Tryz.prog fn false true false false) := by
  refine returnsInHanded_of_change_and (C := Tryz.checked) (X := Met) (fun _ _ _ hh h => h.of_heap hh) law_own started hno hfn wit ?_
  intro W base args ds gs before hval0 hW hcnd _ hL _
  have hW' := hW
  obtain ⟨p, q, hA0, hV, rfl, hfz, hnd⟩ := hW
  have hgl : gs.length = 4 := by
    have key : ∀ (ns : List String) (gs : List (DataW H)) (ps : List MemPlace), DataW.TrodVars enc Tryz.checked.prog W (fun _ => true) ns gs ps → gs.length = ns.length := by
      intro ns
      induction ns with
      | nil => intro gs ps h; obtain ⟨rfl, _⟩ := trodVars_none h; rfl
      | cons n ns ih =>
        intro gs ps h
        cases gs with
        | nil => exact h.elim
        | cons d ds => obtain ⟨_, _, _, _, _, _, _, _, _, _, hs, _⟩ := h; simp [ih _ _ hs]
    rw [key _ _ _ hV, hvl]
  have hlen : ds.length = fn.params.size := by
    have key : ∀ (ts : List TypeId) (vs : List Value) (ds : List (DataW H)) (ps : List MemPlace), DataW.TrodAll enc Tryz.checked.prog W 0 (fun _ => true) true ts vs ds ps → ds.length = ts.length := by
      intro ts
      induction ts with
      | nil => intro vs ds ps h; obtain ⟨_, rfl, _⟩ := trodAll_nil h; rfl
      | cons t ts ih => intro vs ds ps h; obtain ⟨v, vs', d, ds', p, q, _, rfl, _, _, r0⟩ := trodAll_cons h; simp [ih _ _ _ r0]
    simpa using key _ _ _ _ hA0
  refine (walk W base args ds p hval0 hA0 hL).mono fun e W' ⟨he, hg⟩ => ?_
  subst he
  have hlt : ∀ x ∈ p, x.block < W.heap.size := fun x hx => hW'.lt x (by simp [hx])
  refine ⟨_, rfl, _, _, _, [], p, q, hW', ?_, ?_, ?_, hg.frame _, fun h => by cases h⟩
  · rw [hspec ds gs hlen hgl, hr]
    exact trodAll_mk1 (shut_bool Tryz.underlying4 _)
  · rw [hspec ds gs hlen hgl]
    exact trodAll_below law_laidOut hg _ _ _ _ hts hA0 hlt
  · rw [hspec ds gs hlen hgl]
    exact Below.trodVars law_laidOut hg hv hV

end Go.Proofs.YtckkemknajggpaaGreatDoor

namespace Go.Proofs.YtckkemknajggpaaGreatDoor
open Go.ChangeShapes Go.WideShapes Go.ChangeAt Go.RowKit Go.Deep Go.Joins

attribute [local go_sem] run_store_f

theorem own_kept {α : Type} {w w' : World} {b : Nat} {E : TypeId} {mk : α → Value} {v v' : Value} {xs : List α} (h : Own w b E mk v xs) (hk : KeptBut w w' v') (hn : ∀ j, Value.ownBlock v = some j → Value.ownBlock v' ≠ some j) : Own w' b E mk v xs := by
  obtain ⟨a, cap, h1, h2, h3, h4⟩ := h
  refine ⟨a, cap, h1, h2, h3, h4.imp id ?_⟩
  rintro ⟨g, cur, e, hg, hc, hx⟩
  exact ⟨g, cur, e, hg, hk g cur _ _ hc (hn g (by rw [h1, e]; rfl)), hx⟩

theorem own_rngU {α : Type} {w : World} {b : Nat} {E : TypeId} {mk : α → Value} {v : Value} {xs : List α} (h : Own w b E mk v xs) : ∀ j, Value.ownBlock v = some j → b ≤ j ∧ j < w.heap.size := by
  intro j hj
  obtain ⟨a, cap, rfl, h2, h3, h4⟩ := h
  rcases h4 with ⟨rfl, _⟩ | ⟨g, cur, rfl, hg, hc, hx⟩
  · cases hj
  · have : g = j := by simpa [Value.ownBlock] using hj
    subst this
    exact ⟨hg, row_lt hc⟩

theorem ownDk_kept {w w' : World} {b : Nat} {v v' : Value} {ws : List Dk} (h : OwnDk w b v ws) (hk : KeptBut w w' v') (hn : ∀ j, Value.ownBlock v = some j → Value.ownBlock v' ≠ some j) : OwnDk w' b v ws := by
  obtain ⟨g, cur, rfl, h2, h3, h4, h5, h6⟩ := h
  exact ⟨g, cur, rfl, h2, hk g cur _ _ h3 (hn g rfl), h4, h5, h6⟩

theorem ownDk_rng {w : World} {b : Nat} {v : Value} {ws : List Dk} (h : OwnDk w b v ws) : ∀ j, Value.ownBlock v = some j → b ≤ j ∧ j < w.heap.size := by
  intro j hj
  obtain ⟨g, cur, rfl, h2, h3, h4, h5, h6⟩ := h
  have : g = j := by simpa [Value.ownBlock] using hj
  subst this
  exact ⟨h2, row_lt h3⟩

theorem ownPn_kept {w w' : World} {b : Nat} {v v' : Value} {ws : List Pn} (h : OwnPn w b v ws) (hk : KeptBut w w' v') (hn : ∀ j, Value.ownBlock v = some j → Value.ownBlock v' ≠ some j) : OwnPn w' b v ws := by
  obtain ⟨g, cur, rfl, h2, h3, h4, h5, h6⟩ := h
  exact ⟨g, cur, rfl, h2, hk g cur _ _ h3 (hn g rfl), h4, h5, h6⟩

theorem ownPn_rng {w : World} {b : Nat} {v : Value} {ws : List Pn} (h : OwnPn w b v ws) : ∀ j, Value.ownBlock v = some j → b ≤ j ∧ j < w.heap.size := by
  intro j hj
  obtain ⟨g, cur, rfl, h2, h3, h4, h5, h6⟩ := h
  have : g = j := by simpa [Value.ownBlock] using hj
  subst this
  exact ⟨h2, row_lt h3⟩

theorem markDk_own (b : Nat) (v : Value) (ds : List Dk) (k0 : Int) (l0 : 0 ≤ k0) (l1 : k0 ≤ 40000000) (w : World) (h : OwnDk w b v ds) :
    Calls Tryz.prog 17 #[v, .int .i64 k0] w fun e w' => e = .returned (.int .i64 (k0 + 3 * (ds.length : Int))) ∧ Below b w w' ∧ KeptBut w w' v := by
  obtain ⟨g, cur, rfl, h2, h3, h4, h5, h6⟩ := h
  exact markDkS_any b g ds.length ds.length h5 k0 l0 l1 cur w h3 (by omega) h2

theorem markPn_own (b : Nat) (v : Value) (ps : List Pn) (k0 : Int) (l0 : 0 ≤ k0) (l1 : k0 ≤ 40000000) (w : World) (h : OwnPn w b v ps) :
    Calls Tryz.prog 18 #[v, .int .i64 k0] w fun e w' => e = .returned (.int .i64 (k0 + 3 * (ps.length : Int))) ∧ Below b w w' ∧ KeptBut w w' v := by
  obtain ⟨g, cur, rfl, h2, h3, h4, h5, h6⟩ := h
  exact markPnS_any b g ps.length ps.length h5 k0 l0 l1 cur w h3 (by omega) h2

end Go.Proofs.YtckkemknajggpaaGreatDoor

namespace Go.Proofs.YtckkemknajggpaaGreatDoor

/-- All of the numbers below n, one after the other. -/
def walkD {σ : Type} (f : Nat → σ → σ) : Nat → σ → σ
  | 0, s => s
  | k + 1, s => f k (walkD f k s)

/-- How many desks are taken. -/
def cntB (t : Nat) : Nat := ((List.range 8).filter (fun k => t.testBit k)).length

/-- The best seats and their number behind all ways on: a of so many people that are left, the seats so far, the desks that are taken, the people that have one. -/
def frmS (A : Nat → Nat → Bool) (D : Nat) : Nat → List Int → Nat → Nat → List Int × Int → List Int × Int
  | 0, s, _, c, st => if (c : Int) ≤ st.2 then st else (s, (c : Int))
  | l + 1, s, t, c, st => if ((c + (l + 1) : Nat) : Int) ≤ st.2 then st else
      frmS A D l (s ++ [-1]) t c (walkD (fun k st => if A k s.length && !t.testBit k then frmS A D l (s ++ [(k : Int)]) (t ||| 2 ^ k) (c + 1) st else st) D st)

/-- The same with the program's bound. -/
def prgS (A : Nat → Nat → Bool) (D : Nat) : Nat → List Int → Nat → Nat → List Int × Int → List Int × Int
  | 0, s, t, c, st => if ((c + min 0 (D - cntB t) : Nat) : Int) ≤ st.2 then st else (s, (c : Int))
  | l + 1, s, t, c, st => if ((c + min (l + 1) (D - cntB t) : Nat) : Int) ≤ st.2 then st else
      prgS A D l (s ++ [-1]) t c (walkD (fun k st => if A k s.length && !t.testBit k then prgS A D l (s ++ [(k : Int)]) (t ||| 2 ^ k) (c + 1) st else st) D st)

theorem cnt_or_all : ∀ t : Fin 256, ∀ k : Fin 8, t.val.testBit k.val = false → cntB (t.val ||| 2 ^ k.val) = cntB t.val + 1 := by decide +kernel

theorem cnt_le_all : ∀ t : Fin 256, ∀ D : Fin 9, t.val < 2 ^ D.val → cntB t.val ≤ D.val := by decide +kernel

theorem cnt_or {t k : Nat} (ht : t < 256) (hk : k < 8) (h : t.testBit k = false) : cntB (t ||| 2 ^ k) = cntB t + 1 := cnt_or_all ⟨t, ht⟩ ⟨k, hk⟩ h

theorem pow_le8 {D : Nat} (h : D ≤ 8) : 2 ^ D ≤ 256 := Nat.pow_le_pow_right (by decide) h

theorem cnt_le {t D : Nat} (hD : D ≤ 8) (h : t < 2 ^ D) : cntB t ≤ D := cnt_le_all ⟨t, Nat.lt_of_lt_of_le h (pow_le8 hD)⟩ ⟨D, by omega⟩ h

theorem or_lt {t k D : Nat} (h : t < 2 ^ D) (hk : k < D) : t ||| 2 ^ k < 2 ^ D := Nat.or_lt_two_pow h (Nat.pow_lt_pow_right (by decide) hk)

/-- What can come to no more people changes nothing. -/
theorem frm_none (A : Nat → Nat → Bool) {D : Nat} (hD : D ≤ 8) : ∀ (l : Nat) (s : List Int) (t c : Nat) (st : List Int × Int), t < 2 ^ D → ((c + (D - cntB t) : Nat) : Int) ≤ st.2 → frmS A D l s t c st = st
  | 0, s, t, c, st, ht, h => by
    rw [frmS, if_pos (by omega)]
  | l + 1, s, t, c, st, ht, h => by
    rw [frmS]
    split
    · rfl
    · have hw : ∀ n, n ≤ D → walkD (fun k st => if A k s.length && !t.testBit k then frmS A D l (s ++ [(k : Int)]) (t ||| 2 ^ k) (c + 1) st else st) n st = st := by
        intro n
        induction n with
        | zero => intro _; rfl
        | succ n ih =>
          intro hn
          rw [walkD, ih (by omega)]
          by_cases hb : (A n s.length && !t.testBit n) = true
          · simp only [hb, if_true]
            have hb2 : t.testBit n = false := by
              have := (Bool.and_eq_true _ _ ▸ hb : _ ∧ _).2
              simpa using this
            have hc := cnt_or (Nat.lt_of_lt_of_le ht (pow_le8 hD)) (by omega) hb2
            have hle := cnt_le hD (or_lt ht (show n < D by omega))
            exact frm_none A hD l _ _ _ st (or_lt ht (by omega)) (by rw [hc]; rw [hc] at hle; omega)
          · have hb' : (A n s.length && !t.testBit n) = false := by simpa using hb
            simp only [hb', Bool.false_eq_true, if_false]
      rw [hw D (Nat.le_refl _)]
      exact frm_none A hD l _ _ _ st ht h

theorem walk_congr {σ : Type} {f g : Nat → σ → σ} {n : Nat} (h : ∀ k, k < n → ∀ s, f k s = g k s) (s : σ) : walkD f n s = walkD g n s := by
  induction n with
  | zero => rfl
  | succ n ih =>
    rw [walkD, walkD, ih (fun k hk => h k (by omega))]
    exact h n (by omega) _

/-- The program's bound comes to the same. -/
theorem prg_frm (A : Nat → Nat → Bool) {D : Nat} (hD : D ≤ 8) : ∀ (l : Nat) (s : List Int) (t c : Nat) (st : List Int × Int), t < 2 ^ D → prgS A D l s t c st = frmS A D l s t c st
  | 0, s, t, c, st, _ => by
    rw [prgS, frmS, Nat.zero_min, Nat.add_zero]
  | l + 1, s, t, c, st, ht => by
    rw [prgS]
    by_cases h : ((c + min (l + 1) (D - cntB t) : Nat) : Int) ≤ st.2
    · rw [if_pos h]
      by_cases h2 : ((c + (l + 1) : Nat) : Int) ≤ st.2
      · rw [frmS, if_pos h2]
      · have h3 : ((c + (D - cntB t) : Nat) : Int) ≤ st.2 := by omega
        exact (frm_none A hD _ _ _ _ _ ht h3).symm
    · rw [if_neg h, frmS, if_neg (by omega)]
      rw [prg_frm A hD l _ _ _ _ ht]
      congr 1
      exact walk_congr (fun k hk st => by
        by_cases hb : (A k s.length && !t.testBit k) = true
        · simp only [hb, if_true]; exact prg_frm A hD l _ _ _ _ (or_lt ht hk)
        · have hb' : (A k s.length && !t.testBit k) = false := by simpa using hb
          simp only [hb', Bool.false_eq_true, if_false]) st

end Go.Proofs.YtckkemknajggpaaGreatDoor

namespace Go.Proofs.YtckkemknajggpaaGreatDoor
open Go.ChangeShapes Go.WideShapes Go.ChangeAt Go.RowKit Go.Deep Go.Joins

theorem run_minI (a b : Int) (tys : Array TypeId) (T : TypeId) (w : World) : (Builtin.min_ tys T #[.int .i64 a, .int .i64 b]).run Tryz.prog w = .ok (.int .i64 (if b < a then b else a)) w := by
  simp only [Builtin.min_, List.foldlM_cons, List.foldlM_nil, Builtin.min2]
  rfl

theorem u16_bit : ∀ t : Fin 256, ∀ k : Fin 8, (bits .and .u16 ((t.val : Int) / 2 ^ k.val) 1 == 1) = t.val.testBit k.val ∧ (bits .and .u16 ((t.val : Int) / 2 ^ k.val) 1 == 0) = !t.val.testBit k.val := by decide +kernel

theorem u16_or : ∀ t : Fin 256, ∀ k : Fin 8, bits .or .u16 (t.val : Int) (2 ^ k.val) = ((t.val ||| 2 ^ k.val : Nat) : Int) := by decide +kernel

theorem u16_low : ∀ t : Fin 256, bits .and .u16 (t.val : Int) 255 = (t.val : Int) ∧ (t.val : Int) / 256 = 0 := by decide +kernel

/-- How many bits of a byte are set. -/
def tabC : ByteArray := ⟨#[0, 1, 1, 2, 1, 2, 2, 3, 1, 2, 2, 3, 2, 3, 3, 4, 1, 2, 2, 3, 2, 3, 3, 4, 2, 3, 3, 4, 3, 4, 4, 5, 1, 2, 2, 3, 2, 3, 3, 4, 2, 3, 3, 4, 3, 4, 4, 5, 2, 3, 3, 4, 3, 4, 4, 5, 3, 4, 4, 5, 4, 5, 5, 6, 1, 2, 2, 3, 2, 3, 3, 4, 2, 3, 3, 4, 3, 4, 4, 5, 2, 3, 3, 4, 3, 4, 4, 5, 3, 4, 4, 5, 4, 5, 5, 6, 2, 3, 3, 4, 3, 4, 4, 5, 3, 4, 4, 5, 4, 5, 5, 6, 3, 4, 4, 5, 4, 5, 5, 6, 4, 5, 5, 6, 5, 6, 6, 7, 1, 2, 2, 3, 2, 3, 3, 4, 2, 3, 3, 4, 3, 4, 4, 5, 2, 3, 3, 4, 3, 4, 4, 5, 3, 4, 4, 5, 4, 5, 5, 6, 2, 3, 3, 4, 3, 4, 4, 5, 3, 4, 4, 5, 4, 5, 5, 6, 3, 4, 4, 5, 4, 5, 5, 6, 4, 5, 5, 6, 5, 6, 6, 7, 2, 3, 3, 4, 3, 4, 4, 5, 3, 4, 4, 5, 4, 5, 5, 6, 3, 4, 4, 5, 4, 5, 5, 6, 4, 5, 5, 6, 5, 6, 6, 7, 3, 4, 4, 5, 4, 5, 5, 6, 4, 5, 5, 6, 5, 6, 6, 7, 4, 5, 5, 6, 5, 6, 6, 7, 5, 6, 6, 7, 6, 7, 7, 8]⟩

theorem tabC_size : tabC.size = 256 := by decide +kernel

theorem tabC_all : ∀ x : Fin 256, (tabC[x.val]'(by rw [tabC_size]; exact x.isLt)).toNat = cntB x.val ∧ cntB x.val ≤ 8 := by decide +kernel

theorem tabC_at (t : Nat) (h : t < tabC.size) : (tabC[t]'h).toNat = cntB t := (tabC_all ⟨t, by rw [tabC_size] at h; exact h⟩).1

set_option maxRecDepth 100000 in
set_option maxHeartbeats 4000000 in
theorem ones_any (t : Nat) (ht : t < 256) (w : World) : Calls Tryz.prog 48 #[.int .u16 (t : Int)] w fun e w' => e = .returned (.int .i64 (cntB t : Int)) ∧ Below w.heap.size w w' := by
  have h1 := (u16_low ⟨t, ht⟩).1
  have h2 := (u16_low ⟨t, ht⟩).2
  have hf : Int.fdiv (t : Int) (2 ^ 8) = 0 := by rw [Int.fdiv_eq_ediv_of_nonneg _ (by decide)]; exact h2
  go_enter Tryz.func48, Tryz.ntmps48
  go_upto_region 1 with (fail)
  have hb : Below w.heap.size w w := Below.refl _ _
  have hc := (tabC_all ⟨t, ht⟩).2
  have w1 : IntKind.u8.wrap ((cntB t : Nat) : Int) = (cntB t : Int) := by
    have : ∀ n : Nat, n < 9 → IntKind.u8.wrap (n : Int) = (n : Int) := by decide
    exact this _ (by have : cntB t ≤ 8 := hc; omega)
  have w2 : IntKind.i64.wrap ((cntB t : Nat) : Int) = (cntB t : Int) := by
    have : ∀ n : Nat, n < 9 → IntKind.i64.wrap (n : Int) = (n : Int) := by decide
    exact this _ (by have : cntB t ≤ 8 := hc; omega)
  refine wp_region_held_drew (S := (fun V => Below w.heap.size w V)) (by kernel_rfl) ((Below.refl _ _).drew) (fun hHeld => ?_)
  refine take_op (i := 0) (d := 3) (v := ?_) rfl rfl (by kernel_rfl) (by kernel_rfl) (by kernel_rfl) (fun _ _ _ h => h) (Or.inl ⟨by rfl, ?hy0u1⟩) hHeld ?rest0u1
  case hy0u1 =>
    intro w' hS'
    go_simp
    try with_reducible rfl
  simp only [List.setIfInBounds_toArray, List.set_cons_zero, List.set_cons_succ]
  refine take_op (i := 1) (d := 4) (v := ?_) rfl rfl (by kernel_rfl) (by kernel_rfl) (by kernel_rfl) (fun _ _ _ h => h) (Or.inl ⟨by rfl, ?hy1u2⟩) hHeld ?rest1u2
  case hy1u2 =>
    intro w' hS'
    go_simp
    try with_reducible rfl
  simp only [List.setIfInBounds_toArray, List.set_cons_zero, List.set_cons_succ]
  refine take_op (i := 2) (d := 5) (v := ?_) rfl rfl (by kernel_rfl) (by kernel_rfl) (by kernel_rfl) (fun _ _ _ h => h) (Or.inl ⟨by rfl, ?hy2u3⟩) hHeld ?rest2u3
  case hy2u3 =>
    intro w' hS'
    go_simp
    try with_reducible rfl
  simp only [List.setIfInBounds_toArray, List.set_cons_zero, List.set_cons_succ]
  refine take_op (i := 3) (d := 6) (v := ?_) rfl rfl (by kernel_rfl) (by kernel_rfl) (by kernel_rfl) (fun _ _ _ h => h) (Or.inl ⟨by rfl, ?hy3u4⟩) hHeld ?rest3u4
  case hy3u4 =>
    intro w' hS'
    go_simp
    try with_reducible rfl
  simp only [List.setIfInBounds_toArray, List.set_cons_zero, List.set_cons_succ]
  refine take_op (i := 4) (d := 7) (v := ?_) rfl rfl (by kernel_rfl) (by kernel_rfl) (by kernel_rfl) (fun _ _ _ h => h) (Or.inl ⟨by rfl, ?hy4u5⟩) hHeld ?rest4u5
  case hy4u5 =>
    intro w' hS'
    go_simp
    try with_reducible rfl
  simp only [List.setIfInBounds_toArray, List.set_cons_zero, List.set_cons_succ]
  refine take_op (i := 5) (d := 8) (v := ?_) rfl rfl (by kernel_rfl) (by kernel_rfl) (by kernel_rfl) (fun _ _ _ h => h) (Or.inl ⟨by rfl, ?hy5u6⟩) hHeld ?rest5u6
  case hy5u6 =>
    intro w' hS'
    (go_simp; rw [dif_pos (by omega)]; (have hq : t < tabC.size := by rw [tabC_size]; exact ht); (have hk := tabC_at t hq); change (Result.ok (Value.int .u8 (((tabC[t]'hq).toNat : Nat) : Int)) w').andThen _ = _; rw [hk]; rfl)
    try with_reducible rfl
  simp only [List.setIfInBounds_toArray, List.set_cons_zero, List.set_cons_succ]
  refine take_op (i := 6) (d := 9) (v := ?_) rfl rfl (by kernel_rfl) (by kernel_rfl) (by kernel_rfl) (fun _ _ _ h => h) (Or.inl ⟨by rfl, ?hy6u7⟩) hHeld ?rest6u7
  case hy6u7 =>
    intro w' hS'
    go_simp
    try with_reducible rfl
  simp only [List.setIfInBounds_toArray, List.set_cons_zero, List.set_cons_succ]
  refine take_op (i := 7) (d := 10) (v := ?_) rfl rfl (by kernel_rfl) (by kernel_rfl) (by kernel_rfl) (fun _ _ _ h => h) (Or.inl ⟨by rfl, ?hy7u8⟩) hHeld ?rest7u8
  case hy7u8 =>
    intro w' hS'
    go_simp
    try with_reducible rfl
  simp only [List.setIfInBounds_toArray, List.set_cons_zero, List.set_cons_succ]
  refine take_op (i := 8) (d := 2) (v := ?_) rfl rfl (by kernel_rfl) (by kernel_rfl) (by kernel_rfl) (fun _ _ _ h => h) (Or.inl ⟨by rfl, ?hy8u9⟩) hHeld ?rest8u9
  case hy8u9 =>
    intro w' hS'
    go_simp
    try with_reducible rfl
  simp only [List.setIfInBounds_toArray, List.set_cons_zero, List.set_cons_succ]
  refine wpAnyH_done (by kernel_rfl) ?_ _
  revert hHeld
  generalize w.drew = W1
  intro hHeld
  replace hb := hb.trans (hHeld.mono hb.size)
  clear hHeld
  go_wp2
  go_ret
  refine ⟨?_, hb⟩
  show Ending.returned (.int .i64 (IntKind.i64.wrap (IntKind.u8.wrap ((0 : Int) + (cntB t : Int))))) = _
  rw [Int.zero_add, w1, w2]

end Go.Proofs.YtckkemknajggpaaGreatDoor

namespace Go.Proofs.YtckkemknajggpaaGreatDoor
open Go.ChangeShapes Go.WideShapes Go.ChangeAt Go.RowKit Go.Deep Go.Joins

attribute [local go_sem] run_store_f

theorem info_i64S : (Tryz.prog.info? 2).map (fun i => (i.zero, i.size, i.bytes)) = some (some (.int .i64 0), 1, 8) := by kernel_rfl

/-- A list of words of 16 bits, each below 256. -/
def WAt (V : World) (wv : Value) (xs : List Nat) : Prop := ∃ a c, wv = .slice a xs.length c ∧ ∀ (j x : Nat), xs[j]? = some x → ∃ g o, a = some ⟨g, o, none⟩ ∧ V.cell? ⟨g, o + j, none⟩ = some (.int .u16 (x : Int))

theorem wat_below {V V' : World} {wv : Value} {xs : List Nat} (h : WAt V wv xs) (hb : Below V.heap.size V V') : WAt V' wv xs := by
  obtain ⟨a, c, e, hx⟩ := h
  refine ⟨a, c, e, fun j x h => ?_⟩
  obtain ⟨g, o, e2, hc⟩ := hx j x h
  exact ⟨g, o, e2, cell_belowB hb hc⟩

/-- What the search keeps: the words, the number of people, the best seats and how many they are, the seats so far, itself. -/
structure PS (W0 : World) (wv : Value) (n g0 g1 g2 g3 g4 g5 g6 : Nat) (fv : Value) (st : List Int × Int) (s : List Int) (V : World) : Prop where
  h0 : V.heap[g0]? = some (.cells #[wv] 52 (0, 0))
  h1 : V.heap[g1]? = some (.cells #[.int .i64 (n : Int)] 3 (0, 0))
  h2 : ∃ v, V.heap[g2]? = some (.cells #[v] 31 (0, 0)) ∧ Own V (g6 + 1) 2 (Value.int .i64) v st.1
  h3 : V.heap[g3]? = some (.cells #[.int .i64 st.2] 3 (0, 0))
  h4 : ∃ cur, V.heap[g4]? = some (.cells cur 2 (0, 0)) ∧ cur.size = n ∧ ∀ (j : Nat) (x : Int), s[j]? = some x → cur[j]? = some (.int .i64 x)
  h5 : V.heap[g5]? = some (.cells #[.slice (some ⟨g4, 0, none⟩) n n] 31 (0, 0))
  h6 : V.heap[g6]? = some (.cells #[fv] 100 (0, 0))
  hb : Below W0.heap.size W0 V
  b0 : W0.heap.size ≤ g0
  l0 : g0 < g1
  l1 : g1 < g2
  l2 : g2 < g3
  l3 : g3 < g4
  l4 : g4 < g5
  l5 : g5 < g6

section
variable {W0 : World} {wv : Value} {n g0 g1 g2 g3 g4 g5 g6 : Nat} {fv : Value} {st : List Int × Int} {s : List Int}

theorem PS.below {V V' : World} (h : PS W0 wv n g0 g1 g2 g3 g4 g5 g6 fv st s V) (hb : Below V.heap.size V V') : PS W0 wv n g0 g1 g2 g3 g4 g5 g6 fv st s V' := by
  obtain ⟨v, h2, ho⟩ := h.h2
  obtain ⟨cur, h4, hs, hx⟩ := h.h4
  exact ⟨below_row hb h.h0, below_row hb h.h1, ⟨v, below_row hb h2, own_below ho hb (Nat.le_refl _)⟩, below_row hb h.h3, ⟨cur, below_row hb h4, hs, hx⟩, below_row hb h.h5, below_row hb h.h6, h.hb.trans (hb.mono h.hb.size), h.b0, h.l0, h.l1, h.l2, h.l3, h.l4, h.l5⟩

theorem PS.cells {V : World} (h : PS W0 wv n g0 g1 g2 g3 g4 g5 g6 fv st s V) : V.cell? ⟨g0, 0, none⟩ = some wv ∧ V.cell? ⟨g1, 0, none⟩ = some (.int .i64 (n : Int)) ∧ V.cell? ⟨g3, 0, none⟩ = some (.int .i64 st.2) ∧ V.cell? ⟨g5, 0, none⟩ = some (.slice (some ⟨g4, 0, none⟩) n n) ∧ V.cell? ⟨g6, 0, none⟩ = some fv :=
  ⟨cell_k (k := 0) h.h0 rfl, cell_k (k := 0) h.h1 rfl, cell_k (k := 0) h.h3 rfl, cell_k (k := 0) h.h5 rfl, cell_k (k := 0) h.h6 rfl⟩

/-- A seat is written. -/
theorem PS.seat {V : World} {x : Int} (h : PS W0 wv n g0 g1 g2 g3 g4 g5 g6 fv st s V) (hl : s.length < n) : PS W0 wv n g0 g1 g2 g3 g4 g5 g6 fv st (s ++ [x]) (V.setCell ⟨g4, s.length, none⟩ (.int .i64 x)) := by
  obtain ⟨b0, l0, l1, l2, l3, l4, l5⟩ := And.intro h.b0 (And.intro h.l0 (And.intro h.l1 (And.intro h.l2 (And.intro h.l3 (And.intro h.l4 h.l5)))))
  obtain ⟨v, h2, a, cap, e1, e2, e3, e4⟩ := h.h2
  obtain ⟨cur, h4, hs, hx⟩ := h.h4
  refine ⟨(heap_setCell_other _ _ _ _ (by simp; omega)).trans h.h0, (heap_setCell_other _ _ _ _ (by simp; omega)).trans h.h1, ⟨v, (heap_setCell_other _ _ _ _ (by simp; omega)).trans h2, a, cap, e1, e2, e3, e4.imp id ?_⟩, (heap_setCell_other _ _ _ _ (by simp; omega)).trans h.h3, ⟨_, heap_setCell_same _ _ _ _ _ _ h4, by simpa using hs, fun j y hy => ?_⟩, (heap_setCell_other _ _ _ _ (by simp; omega)).trans h.h5, (heap_setCell_other _ _ _ _ (by simp; omega)).trans h.h6, h.hb.setCell (p := ⟨g4, s.length, none⟩) (show W0.heap.size ≤ g4 by omega) _, b0, l0, l1, l2, l3, l4, l5⟩
  · rintro ⟨g, cu, e, hg, hc, hk⟩
    exact ⟨g, cu, e, hg, (heap_setCell_other _ _ _ _ (by simp; omega)).trans hc, hk⟩
  · rw [Array.getElem?_setIfInBounds]
    by_cases c : s.length = j
    · subst c
      rw [if_pos rfl, if_pos (by omega)]
      simp at hy
      rw [hy]
    · rw [if_neg c]
      refine hx j y ?_
      have hj : j < s.length := by
        have := (List.getElem?_eq_some_iff.1 hy).1
        simp at this
        omega
      rw [List.getElem?_append_left hj] at hy
      exact hy

/-- What lies behind the seats so far does not matter. -/
theorem PS.less {V : World} {x : Int} (h : PS W0 wv n g0 g1 g2 g3 g4 g5 g6 fv st (s ++ [x]) V) : PS W0 wv n g0 g1 g2 g3 g4 g5 g6 fv st s V := by
  obtain ⟨cur, h4, hs, hx⟩ := h.h4
  refine ⟨h.h0, h.h1, h.h2, h.h3, ⟨cur, h4, hs, fun j y hy => hx j y ?_⟩, h.h5, h.h6, h.hb, h.b0, h.l0, h.l1, h.l2, h.l3, h.l4, h.l5⟩
  rw [List.getElem?_append_left (List.getElem?_eq_some_iff.1 hy).1]
  exact hy

/-- The best way is written. -/
theorem PS.best {V : World} {v : Value} {c : Int} (h : PS W0 wv n g0 g1 g2 g3 g4 g5 g6 fv st s V) (ho : Own V (g6 + 1) 2 (Value.int .i64) v s) : PS W0 wv n g0 g1 g2 g3 g4 g5 g6 fv (s, c) s ((V.setCell ⟨g2, 0, none⟩ v).setCell ⟨g3, 0, none⟩ (.int .i64 c)) := by
  obtain ⟨b0, l0, l1, l2, l3, l4, l5⟩ := And.intro h.b0 (And.intro h.l0 (And.intro h.l1 (And.intro h.l2 (And.intro h.l3 (And.intro h.l4 h.l5)))))
  obtain ⟨v0, h2, -⟩ := h.h2
  obtain ⟨cur, h4, hs, hx⟩ := h.h4
  obtain ⟨a, cap, e1, e2, e3, e4⟩ := ho
  have O : ∀ {g : Nat} {o : Obj}, V.heap[g]? = some o → g ≠ g2 → g ≠ g3 → ((V.setCell ⟨g2, 0, none⟩ v).setCell ⟨g3, 0, none⟩ (.int .i64 c)).heap[g]? = some o := fun hh n2 n3 => (heap_setCell_other _ _ _ _ (by simp; omega)).trans ((heap_setCell_other _ _ _ _ (by simp; omega)).trans hh)
  refine ⟨O h.h0 (by omega) (by omega), O h.h1 (by omega) (by omega), ⟨v, (heap_setCell_other _ _ _ _ (by simp; omega)).trans (heap_setCell_same _ _ _ _ _ _ h2), a, cap, e1, e2, e3, e4.imp id ?_⟩, heap_setCell_same _ _ _ _ _ _ ((heap_setCell_other _ _ _ _ (by simp; omega)).trans h.h3), ⟨cur, O h4 (by omega) (by omega), hs, hx⟩, O h.h5 (by omega) (by omega), O h.h6 (by omega) (by omega), (h.hb.setCell (p := ⟨g2, 0, none⟩) (show W0.heap.size ≤ g2 by omega) _).setCell (p := ⟨g3, 0, none⟩) (show W0.heap.size ≤ g3 by omega) _, b0, l0, l1, l2, l3, l4, l5⟩
  rintro ⟨g, cu, e, hg, hc, hk⟩
  exact ⟨g, cu, e, hg, O hc (by omega) (by omega), hk⟩

theorem PS.frozen {V : World} (h : PS W0 wv n g0 g1 g2 g3 g4 g5 g6 fv st s V) {j : Nat} (hj : j < n) : (∃ u, V.cell? ⟨g4, j, none⟩ = some u) ∧ V.frozen? ⟨g4, j, none⟩ = false := by
  obtain ⟨cur, h4, hs, hx⟩ := h.h4
  exact ⟨⟨_, cell_k h4 (Array.getElem?_eq_getElem (by omega))⟩, frozen_of_row V g4 j _ _ h4⟩
end

set_option maxRecDepth 100000 in
set_option maxHeartbeats 4000000 in
theorem clone_ints (g n cap : Nat) (zs : List Int) (hz : zs.length = n) (hn : n ≤ 1000) (w : World) (hc : ∀ (j : Nat) (x : Int), zs[j]? = some x → w.cell? ⟨g, j, none⟩ = some (.int .i64 x)) :
    Calls Tryz.prog 49 #[.slice (some ⟨g, 0, none⟩) n cap] w fun e w' => (∃ v, e = .returned v ∧ Own w' w.heap.size 2 (Value.int .i64) v zs) ∧ Below w.heap.size w w' := by
  obtain ⟨i0, hin, hz0, hz1, hz2⟩ := info_parts info_i64S
  have hb0 : Below w.heap.size w (w.alloc (.cells #[] 2)) := (Below.refl _ _).alloc (Nat.le_refl _) _
  have HNW : Hid (∀ j u, (zs.map (Value.int .i64))[j]? = some u → (w.alloc (.cells #[] 2)).cell? ((⟨g, 0, none⟩ : Addr).add j) = some u) := Lib.hid (fun j u hu => by
    rw [List.getElem?_map, Option.map_eq_some_iff] at hu
    obtain ⟨x, hx, rfl⟩ := hu
    rw [addr_add, Nat.zero_add]
    exact cell_belowB hb0 (hc j x hx))
  have HN2 := Lib.hid hz
  have q31 : ∀ (w : World) (a : Option Addr) (n c n' c' : Nat), (binOp .eql 31 (.slice a n c) (.slice none n' c')).run Tryz.prog w = .ok (.bool a.isNone) w := fun w a n c n' c' => Lib.run_eql_slice_nil w _ _ a n c n' c' Tryz.underlying31
  clear hb0 hc hz
  go_enter Tryz.func49, Tryz.ntmps49
  go_upto_region 3 with (fail)
  go_wp2_with (at_builtin; go_loud (refine wpList_append_own _ rfl _ _ 31 rfl w.heap.size 2 i0 (.int .i64 0) 1 8 Tryz.underlying31 hin hz0 hz1 hz2 rfl (by decide) _ _ _ rfl (World.ownsRow_made _ _ _ (Nat.le_refl _) (Nat.zero_le _) rfl) ⟨g, 0, none⟩ n cap (zs.map (Value.int .i64)) rfl (by rw [List.length_map, HN2.out, Nat.mul_one]) HNW.out (by intro u hu; obtain ⟨x, _, rfl⟩ := List.mem_map.1 hu; rfl) (by unfold maxLen; omega) (by omega) (by simp) ?_); intro v' w1 hown' hgrow hnil)
  have hown : Own w1 w.heap.size 2 (Value.int .i64) v' zs := own_of_rowS (xs := zs) (mk := Value.int .i64) (by rw [List.nil_append, Nat.zero_add] at hown'; rw [HN2.out]; exact hown') (by rw [HN2.out]; unfold maxLen; omega)
  have hbw : Below w.heap.size w w1 := ((Below.refl _ _).alloc (Nat.le_refl _) _).grown hgrow (by simp) (fun k hk => by
    have e : some w.heap.size = some k := hk
    have := Option.some.inj e
    omega)
  have HO := Lib.hid (And.intro hown hbw)
  clear hown hbw hown' hgrow hnil
  go_wp2
  go_ret
  exact ⟨⟨_, rfl, HO.out.1⟩, HO.out.2⟩

end Go.Proofs.YtckkemknajggpaaGreatDoor

namespace Go.Proofs.YtckkemknajggpaaGreatDoor
open Go.ChangeShapes Go.WideShapes Go.ChangeAt Go.RowKit Go.Deep Go.Joins

attribute [local go_sem] run_store_f

/-- Which desk suits whom. -/
def suitA (xs : List Nat) (k p : Nat) : Bool := (xs.getD k 0).testBit p

theorem i64S {z : Int} (h0 : -1000 ≤ z) (h1 : z ≤ 1000) : IntKind.i64.wrap z = z := by rw [IntWalk.i64_in _ (by omega)]

set_option maxRecDepth 100000 in
set_option maxHeartbeats 4000000 in
theorem seat_leaf (W0 : World) (wv : Value) (xs : List Nat) (hwa : WAt W0 wv xs) (hD : xs.length ≤ 8) (n g0 g1 g2 g3 g4 g5 g6 : Nat) (hn8 : n ≤ 8) (fv : Value)
    (s : List Int) (t c : Nat) (st : List Int × Int) (W : World) (hsl : s.length = n) (ht : t < 2 ^ xs.length) (hcs : c ≤ s.length) (hps : PS W0 wv n g0 g1 g2 g3 g4 g5 g6 fv (st) (s) W) :
    Calls Tryz.prog 47 #[.int .i64 (s.length : Int), .int .u16 (t : Int), .int .i64 (c : Int), .pointer (some ⟨g0, 0, none⟩), .pointer (some ⟨g1, 0, none⟩), .pointer (some ⟨g3, 0, none⟩), .pointer (some ⟨g5, 0, none⟩), .pointer (some ⟨g2, 0, none⟩), .pointer (some ⟨g6, 0, none⟩)] W fun e W' => e = .returned (.tuple #[]) ∧ PS W0 wv n g0 g1 g2 g3 g4 g5 g6 fv (prgS (suitA xs) xs.length 0 s t c st) (s) W' := by
  have hxl : (0 : Nat) = 0 := rfl
  have HPS := Lib.hid hps
  have HX := Lib.hid hxl
  have HWA := Lib.hid hwa
  obtain ⟨fr, hfr⟩ : ∃ fr, fr = xs.length - cntB t := ⟨_, rfl⟩
  obtain ⟨mn, hmn⟩ : ∃ mn, mn = min 0 fr := ⟨_, rfl⟩
  obtain ⟨cm, hcm⟩ : ∃ cm, cm = c + mn := ⟨_, rfl⟩
  have hct := cnt_le hD ht
  have HONE := Lib.hid (fun V => ones_any t (Nat.lt_of_lt_of_le ht (pow_le8 hD)) V)
  have e1 : IntKind.i64.wrap ((xs.length : Int) - (cntB t : Int)) = (fr : Int) := by rw [i64S (by omega) (by omega)]; omega
  have e2 : IntKind.i64.wrap ((n : Int) - (s.length : Int)) = (0 : Int) := by rw [i64S (by omega) (by omega)]; omega
  have hmin : ∀ (tys : Array TypeId) (T : TypeId) (w : World), (Builtin.min_ tys T #[.int .i64 (0 : Int), .int .i64 (fr : Int)]).run Tryz.prog w = .ok (.int .i64 (mn : Int)) w := fun tys T w => by
    rw [run_minI]
    have : (if (fr : Int) < (0 : Int) then (fr : Int) else (0 : Int)) = (mn : Int) := by
      rw [hmn]; split <;> omega
    rw [this]
  have e3 : IntKind.i64.wrap ((c : Int) + (mn : Int)) = (cm : Int) := by rw [i64S (by omega) (by omega)]; omega
  have e4 : IntKind.i64.wrap ((xs.length : Nat) : Int) = (xs.length : Int) := i64S (by omega) (by omega)
  have hpr : prgS (suitA xs) xs.length 0 s t c st = if (cm : Int) ≤ st.2 then st else (s, (c : Int)) := by rw [prgS, ← hfr, ← hmn, ← hcm]
  obtain ⟨R, hR⟩ : ∃ R, R = prgS (suitA xs) xs.length 0 s t c st := ⟨_, rfl⟩
  rw [← hR]
  have HR : Hid (R = if (cm : Int) ≤ st.2 then st else (s, (c : Int))) := Lib.hid (by rw [hR, hpr])
  have HC : Hid (cm = c) := Lib.hid (by omega)
  have HSL := Lib.hid hsl
  have ze : ((s.length : Int) == (n : Int)) = true := by rw [hsl]; simp
  obtain ⟨c0, c1, c3, c5, -⟩ := hps.cells
  have hb := hps.hb
  obtain ⟨a, cap, rfl, -⟩ := hwa
  clear hps hct hfr hmn hcm hpr hxl HX HWA hR
  go_enter Tryz.func47, Tryz.ntmps47
  go_upto_region 0 with (fail)
  refine wp_region_held_drew (S := (fun V => Below W.heap.size W V)) (by kernel_rfl) ((Below.refl _ _).drew) (fun hHeld => ?_)
  refine take_op (i := 0) (d := 15) (v := ?_) rfl rfl (by kernel_rfl) (by kernel_rfl) (by kernel_rfl) (fun _ _ _ h => h) (Or.inl ⟨by rfl, ?hy0u10⟩) hHeld ?rest0u10
  case hy0u10 =>
    intro w' hS'
    have c0 := cell_belowB hS' c0
    go_simp
    try with_reducible rfl
  simp only [List.setIfInBounds_toArray, List.set_cons_zero, List.set_cons_succ]
  refine take_op (i := 1) (d := 16) (v := ?_) rfl rfl (by kernel_rfl) (by kernel_rfl) (by kernel_rfl) (fun _ _ _ h => h) (Or.inl ⟨by rfl, ?hy1u11⟩) hHeld ?rest1u11
  case hy1u11 =>
    intro w' hS'
    go_simp
    try with_reducible rfl
  simp only [List.setIfInBounds_toArray, List.set_cons_zero, List.set_cons_succ]
  refine take_op (i := 2) (d := 17) (v := ?_) rfl rfl (by kernel_rfl) (by kernel_rfl) (by kernel_rfl) (fun _ _ _ h => h) (Or.inl ⟨by rfl, ?hy2u12⟩) hHeld ?rest2u12
  case hy2u12 =>
    intro w' hS'
    go_simp
    try with_reducible rfl
  simp only [List.setIfInBounds_toArray, List.set_cons_zero, List.set_cons_succ]
  refine wpAnyH_ready (rs := [3]) (by kernel_rfl) (by simp) ?_
  refine AllReadyH.cons rfl (fun K hK => ?_) AllReadyH.nil
  go_simp
  refine (HONE.out _).mono ?_
  rintro e W1 ⟨rfl, hb1⟩
  refine hK.out _ _ (hHeld.trans (hb1.mono hHeld.size)) (fun hHeld2 => ?_)
  clear hK K
  replace hHeld := hHeld2
  clear hHeld2
  clear hb1
  refine take_op (i := 4) (d := 19) (v := ?_) rfl rfl (by kernel_rfl) (by kernel_rfl) (by kernel_rfl) (fun _ _ _ h => h) (Or.inl ⟨by rfl, ?hy4u13⟩) hHeld ?rest4u13
  case hy4u13 =>
    intro w' hS'
    go_simp
    try with_reducible rfl
  simp only [List.setIfInBounds_toArray, List.set_cons_zero, List.set_cons_succ]
  refine take_op (i := 5) (d := 12) (v := ?_) rfl rfl (by kernel_rfl) (by kernel_rfl) (by kernel_rfl) (fun _ _ _ h => h) (Or.inl ⟨by rfl, ?hy5u14⟩) hHeld ?rest5u14
  case hy5u14 =>
    intro w' hS'
    go_simp
    try with_reducible rfl
  simp only [List.setIfInBounds_toArray, List.set_cons_zero, List.set_cons_succ]
  refine wpAnyH_done (by kernel_rfl) ?_ _
  replace c0 := cell_belowB hHeld c0
  replace HPS := Lib.hid (PS.below HPS.out hHeld)
  replace hb := hb.trans (hHeld.mono hb.size)
  clear hHeld
  obtain ⟨c0, c1, c3, c5, -⟩ := HPS.out.cells
  clear hb
  by_cases hle : (cm : Int) ≤ st.2
  · have HV : Hid (R = st) := Lib.hid (by rw [HR.out, if_pos hle])
    have hd : decide ((cm : Int) ≤ st.2) = true := decide_eq_true hle
    clear HR
    go_wp2
    (try simp only [Exit.inBlock, Exit.then])
    refine bodyPost_ret (results_none rfl _ _ _) rfl ?_
    exact ⟨rfl, by rw [HV.out]; exact HPS.out⟩
  · have HV : Hid (R = (s, (c : Int))) := Lib.hid (by rw [HR.out, if_neg hle])
    clear HR
    have hd : decide ((cm : Int) ≤ st.2) = false := decide_eq_false hle
    have HCL : Hid (∀ V, PS W0 (.slice a xs.length cap) n g0 g1 g2 g3 g4 g5 g6 fv (st) (s) V → Calls Tryz.prog 49 #[.slice (some ⟨g4, 0, none⟩) n n] V fun e w' => (∃ v, e = .returned v ∧ Own w' V.heap.size 2 (Value.int .i64) v s) ∧ Below V.heap.size V w') := Lib.hid (fun V h => clone_ints g4 n n s HSL.out (by omega) V (fun j x hx => by
      obtain ⟨cur, k1, k2, k3⟩ := h.h4
      exact cell_k k1 (k3 j x hx)))
    go_upto_region 3 with (fail)
    clear hd hle c0 c1 c3 e1 e2 e3 hmin
    go_wp2_with (go_at_call 49; go_loud (refine (HCL.out _ HPS.out).mono ?_); go_loud (rintro e W9 ⟨⟨v9, rfl, hown9⟩, hb9⟩; obtain ⟨a9, c9, rfl, -⟩ := id hown9; have HO9 := Lib.hid (own_below hown9 (Below.refl _ _) (show g6 + 1 ≤ _ from row_lt HPS.out.h6)); replace HPS := Lib.hid (HPS.out.below hb9); clear hown9 hb9; obtain ⟨vb, k2, -⟩ := HPS.out.h2; have q2 := cell_k (k := 0) k2 rfl; have f2 := frozen_of_row _ g2 0 _ _ k2; have q3 := cell_k (k := 0) HPS.out.h3 rfl; have f3 := frozen_of_row _ g3 0 _ _ HPS.out.h3; have L2 := HPS.out.l2; have L2a : g2 ≠ g3 := Nat.ne_of_lt L2; have L2b : g3 ≠ g2 := Nat.ne_of_gt L2; clear k2))
    (try simp only [Exit.inBlock, Exit.then])
    refine bodyPost_ret (results_none rfl _ _ _) rfl ?_
    exact ⟨rfl, by rw [HV.out]; refine HPS.out.best ?_; rw [← HSL.out]; exact HO9.out⟩

set_option maxRecDepth 100000 in
theorem enterSe (args : Array Value) (w : World) : (callFunc 47 args).run Tryz.prog w = .ok (.enter 47 args) w := by
  first | kernel_rfl | rfl | simp [callFunc]

theorem wat_at {V : World} {a : Option Addr} {n c k x : Nat} {xs : List Nat} (h : WAt V (.slice a n c) xs) (hx : xs[k]? = some x) : ∃ g o, a = some ⟨g, o, none⟩ ∧ V.cell? ⟨g, o + k, none⟩ = some (.int .u16 (x : Int)) := by
  obtain ⟨a', c', e, hh⟩ := h
  injection e with e1 e2 e3
  subst e1
  exact hh k x hx

set_option maxRecDepth 100000 in
set_option maxHeartbeats 8000000 in
theorem seat_any (W0 : World) (wv : Value) (xs : List Nat) (hwa : WAt W0 wv xs) (hx256 : ∀ x ∈ xs, x < 256) (hD : xs.length ≤ 8) (n g0 g1 g2 g3 g4 g5 g6 : Nat) (hn8 : n ≤ 8) :
    ∀ (l : Nat) (s : List Int) (t c : Nat) (st : List Int × Int) (W : World), s.length + l = n → t < 2 ^ xs.length → c ≤ s.length → PS W0 wv n g0 g1 g2 g3 g4 g5 g6 (.func (.func 47) #[] #[.pointer (some ⟨g0, 0, none⟩), .pointer (some ⟨g1, 0, none⟩), .pointer (some ⟨g3, 0, none⟩), .pointer (some ⟨g5, 0, none⟩), .pointer (some ⟨g2, 0, none⟩), .pointer (some ⟨g6, 0, none⟩)]) (st) (s) W →
    Calls Tryz.prog 47 #[.int .i64 (s.length : Int), .int .u16 (t : Int), .int .i64 (c : Int), .pointer (some ⟨g0, 0, none⟩), .pointer (some ⟨g1, 0, none⟩), .pointer (some ⟨g3, 0, none⟩), .pointer (some ⟨g5, 0, none⟩), .pointer (some ⟨g2, 0, none⟩), .pointer (some ⟨g6, 0, none⟩)] W fun e W' => e = .returned (.tuple #[]) ∧ PS W0 wv n g0 g1 g2 g3 g4 g5 g6 (.func (.func 47) #[] #[.pointer (some ⟨g0, 0, none⟩), .pointer (some ⟨g1, 0, none⟩), .pointer (some ⟨g3, 0, none⟩), .pointer (some ⟨g5, 0, none⟩), .pointer (some ⟨g2, 0, none⟩), .pointer (some ⟨g6, 0, none⟩)]) (prgS (suitA xs) xs.length l s t c st) (s) W' := by
  intro l
  induction l with
  | zero =>
    intro s t c st W hsl ht hcs hps
    exact seat_leaf W0 wv xs hwa hD n g0 g1 g2 g3 g4 g5 g6 hn8 _ s t c st W (by omega) ht hcs hps
  | succ l ih =>
    intro s t c st W hsl ht hcs hps
    obtain ⟨L, hL⟩ : ∃ L, L = l + 1 := ⟨_, rfl⟩
    have hxl : (0 : Nat) = 0 := rfl
    have HPS := Lib.hid hps
    have HX := Lib.hid hxl
    have HWA := Lib.hid hwa
    obtain ⟨fr, hfr⟩ : ∃ fr, fr = xs.length - cntB t := ⟨_, rfl⟩
    obtain ⟨mn, hmn⟩ : ∃ mn, mn = min L fr := ⟨_, rfl⟩
    obtain ⟨cm, hcm⟩ : ∃ cm, cm = c + mn := ⟨_, rfl⟩
    have hct := cnt_le hD ht
    have HONE := Lib.hid (fun V => ones_any t (Nat.lt_of_lt_of_le ht (pow_le8 hD)) V)
    have e1 : IntKind.i64.wrap ((xs.length : Int) - (cntB t : Int)) = (fr : Int) := by rw [i64S (by omega) (by omega)]; omega
    have e2 : IntKind.i64.wrap ((n : Int) - (s.length : Int)) = (L : Int) := by rw [i64S (by omega) (by omega)]; omega
    have hmin : ∀ (tys : Array TypeId) (T : TypeId) (w : World), (Builtin.min_ tys T #[.int .i64 (L : Int), .int .i64 (fr : Int)]).run Tryz.prog w = .ok (.int .i64 (mn : Int)) w := fun tys T w => by
      rw [run_minI]
      have : (if (fr : Int) < (L : Int) then (fr : Int) else (L : Int)) = (mn : Int) := by
        rw [hmn]; split <;> omega
      rw [this]
    have e3 : IntKind.i64.wrap ((c : Int) + (mn : Int)) = (cm : Int) := by rw [i64S (by omega) (by omega)]; omega
    have e4 : IntKind.i64.wrap ((xs.length : Nat) : Int) = (xs.length : Int) := i64S (by omega) (by omega)
    obtain ⟨F, hF⟩ : ∃ F : Nat → List Int × Int → List Int × Int, F = fun k st => if suitA xs k s.length && !t.testBit k then prgS (suitA xs) xs.length l (s ++ [(k : Int)]) (t ||| 2 ^ k) (c + 1) st else st := ⟨_, rfl⟩
    have hpr : prgS (suitA xs) xs.length (l + 1) s t c st = if (cm : Int) ≤ st.2 then st else prgS (suitA xs) xs.length l (s ++ [-1]) t c (walkD F xs.length st) := by rw [prgS, ← hL, ← hfr, ← hmn, ← hcm, hF]
    obtain ⟨R, hR⟩ : ∃ R, R = prgS (suitA xs) xs.length (l + 1) s t c st := ⟨_, rfl⟩
    rw [← hR]
    have HR : Hid (R = if (cm : Int) ≤ st.2 then st else prgS (suitA xs) xs.length l (s ++ [-1]) t c (walkD F xs.length st)) := Lib.hid (by rw [hR, hpr])
    have HF : Hid (∀ k st, F k st = if suitA xs k s.length && !t.testBit k then prgS (suitA xs) xs.length l (s ++ [(k : Int)]) (t ||| 2 ^ k) (c + 1) st else st) := Lib.hid (fun k st => by rw [hF])
    have HSL : Hid (s.length + l + 1 = n ∧ c ≤ s.length ∧ n ≤ 8 ∧ t < 2 ^ xs.length ∧ t < 256) := Lib.hid ⟨by omega, hcs, hn8, ht, Nat.lt_of_lt_of_le ht (pow_le8 hD)⟩
    have H256 := Lib.hid hx256
    have HIH := Lib.hid ih
    have ze : ((s.length : Int) == (n : Int)) = false := beq_eq_false_iff_ne.2 (by omega)
    have hsl8 : s.length < 8 := by omega
    obtain ⟨c0, c1, c3, c5, -⟩ := hps.cells
    have hb := hps.hb
    obtain ⟨a, cap, rfl, -⟩ := id hwa
    have w10 : IntKind.i64.wrap (s.length : Int) = (s.length : Int) := i64S (by omega) (by omega)
    have w11 : IntKind.u64.wrap (s.length : Int) = (s.length : Int) := by rw [IntWalk.u64_in _ (by omega)]
    have w12 : (s.length : Int) ≤ 16 := by omega
    have w13 : (0 : Int) ≤ (s.length : Int) := by omega
    have w14 : (s.length : Int) < (n : Int) := by omega
    clear hps hct hfr hmn hcm hpr hxl HX hR hF hsl ht hcs hn8 hwa hx256 ih hL
    go_enter Tryz.func47, Tryz.ntmps47
    go_upto_region 0 with (fail)
    refine wp_region_held_drew (S := (fun V => Below W.heap.size W V)) (by kernel_rfl) ((Below.refl _ _).drew) (fun hHeld => ?_)
    refine take_op (i := 0) (d := 15) (v := ?_) rfl rfl (by kernel_rfl) (by kernel_rfl) (by kernel_rfl) (fun _ _ _ h => h) (Or.inl ⟨by rfl, ?hy0u15⟩) hHeld ?rest0u15
    case hy0u15 =>
      intro w' hS'
      have c0 := cell_belowB hS' c0
      go_simp
      try with_reducible rfl
    simp only [List.setIfInBounds_toArray, List.set_cons_zero, List.set_cons_succ]
    refine take_op (i := 1) (d := 16) (v := ?_) rfl rfl (by kernel_rfl) (by kernel_rfl) (by kernel_rfl) (fun _ _ _ h => h) (Or.inl ⟨by rfl, ?hy1u16⟩) hHeld ?rest1u16
    case hy1u16 =>
      intro w' hS'
      go_simp
      try with_reducible rfl
    simp only [List.setIfInBounds_toArray, List.set_cons_zero, List.set_cons_succ]
    refine take_op (i := 2) (d := 17) (v := ?_) rfl rfl (by kernel_rfl) (by kernel_rfl) (by kernel_rfl) (fun _ _ _ h => h) (Or.inl ⟨by rfl, ?hy2u17⟩) hHeld ?rest2u17
    case hy2u17 =>
      intro w' hS'
      go_simp
      try with_reducible rfl
    simp only [List.setIfInBounds_toArray, List.set_cons_zero, List.set_cons_succ]
    refine wpAnyH_ready (rs := [3]) (by kernel_rfl) (by simp) ?_
    refine AllReadyH.cons rfl (fun K hK => ?_) AllReadyH.nil
    go_simp
    refine (HONE.out _).mono ?_
    rintro e W1 ⟨rfl, hb1⟩
    refine hK.out _ _ (hHeld.trans (hb1.mono hHeld.size)) (fun hHeld2 => ?_)
    clear hK K
    replace hHeld := hHeld2
    clear hHeld2
    clear hb1
    refine take_op (i := 4) (d := 19) (v := ?_) rfl rfl (by kernel_rfl) (by kernel_rfl) (by kernel_rfl) (fun _ _ _ h => h) (Or.inl ⟨by rfl, ?hy4u18⟩) hHeld ?rest4u18
    case hy4u18 =>
      intro w' hS'
      go_simp
      try with_reducible rfl
    simp only [List.setIfInBounds_toArray, List.set_cons_zero, List.set_cons_succ]
    refine take_op (i := 5) (d := 12) (v := ?_) rfl rfl (by kernel_rfl) (by kernel_rfl) (by kernel_rfl) (fun _ _ _ h => h) (Or.inl ⟨by rfl, ?hy5u19⟩) hHeld ?rest5u19
    case hy5u19 =>
      intro w' hS'
      go_simp
      try with_reducible rfl
    simp only [List.setIfInBounds_toArray, List.set_cons_zero, List.set_cons_succ]
    refine wpAnyH_done (by kernel_rfl) ?_ _
    replace c0 := cell_belowB hHeld c0
    replace HPS := Lib.hid (PS.below HPS.out hHeld)
    replace hb := hb.trans (hHeld.mono hb.size)
    clear hHeld
    obtain ⟨c0, c1, c3, c5, -⟩ := HPS.out.cells
    clear hb
    by_cases hle : (cm : Int) ≤ st.2
    · have HV : Hid (R = st) := Lib.hid (by rw [HR.out, if_pos hle])
      have hd : decide ((cm : Int) ≤ st.2) = true := decide_eq_true hle
      clear HR HIH HF
      go_wp2
      (try simp only [Exit.inBlock, Exit.then])
      refine bodyPost_ret (results_none rfl _ _ _) rfl ?_
      exact ⟨rfl, by rw [HV.out]; exact HPS.out⟩
    · have HV : Hid (R = prgS (suitA xs) xs.length l (s ++ [-1]) t c (walkD F xs.length st)) := Lib.hid (by rw [HR.out, if_neg hle])
      have hd : decide ((cm : Int) ≤ st.2) = false := decide_eq_false hle
      clear HR
      go_upto_region 4 with (fail)
      clear hle hd hmin e1 e2 e3 c1 c3 ze
      go_wp2
      go_loopw [37] (fun i wr => ∃ k : Nat, k ≤ xs.length ∧ i = .int .i64 (k : Int) ∧ PS W0 (.slice a xs.length cap) n g0 g1 g2 g3 g4 g5 g6 (.func (.func 47) #[] #[.pointer (some ⟨g0, 0, none⟩), .pointer (some ⟨g1, 0, none⟩), .pointer (some ⟨g3, 0, none⟩), .pointer (some ⟨g5, 0, none⟩), .pointer (some ⟨g2, 0, none⟩), .pointer (some ⟨g6, 0, none⟩)]) (walkD F k st) (s) wr) (fun i _ => xs.length - (intOf i).toNat)
      case atStart => exact ⟨0, Nat.zero_le _, rfl, HPS.out⟩
      case round =>
        clear HPS c0 c5
        obtain ⟨k, hk, rfl, hps⟩ := hrel
        have hFS : walkD F (k + 1) st = F k (walkD F k st) := rfl
        rw [HF.out] at hFS
        generalize hst1 : walkD F k st = st1 at *
        have HST := Lib.hid hst1
        clear hst1
        have HPS := Lib.hid hps
        obtain ⟨c0, -, -, c5, -⟩ := hps.cells
        by_cases hlt : k < xs.length
        · obtain ⟨x, hx⟩ : ∃ x, xs[k]? = some x := ⟨_, List.getElem?_eq_getElem hlt⟩
          obtain ⟨g, o, rfl, hc⟩ := wat_at (wat_below HWA.out hps.hb) hx
          have hxl : x < 256 := H256.out x (List.mem_of_getElem? hx)
          have hb1 : (bits .and .u16 ((x : Int) / 2 ^ s.length) 1 == 1) = suitA xs k s.length := by
            have e : suitA xs k s.length = x.testBit s.length := by unfold suitA; rw [List.getD_eq_getElem?_getD, hx]; rfl
            rw [e]; exact (u16_bit ⟨x, hxl⟩ ⟨s.length, hsl8⟩).1
          have hb2 : (bits .and .u16 ((t : Int) / 2 ^ k) 1 == 0) = !t.testBit k := (u16_bit ⟨t, HSL.out.2.2.2.2⟩ ⟨k, by omega⟩).2
          have e6 : bits .or .u16 (t : Int) (2 ^ k) = ((t ||| 2 ^ k : Nat) : Int) := u16_or ⟨t, HSL.out.2.2.2.2⟩ ⟨k, by omega⟩
          have w20 : IntKind.i64.wrap (k : Int) = (k : Int) := i64S (by omega) (by omega)
          have w21 : IntKind.u64.wrap (k : Int) = (k : Int) := by rw [IntWalk.u64_in _ (by omega)]
          have w22 : (k : Int) ≤ 16 := by omega
          have w23 : (0 : Int) ≤ (k : Int) := by omega
          have w24 : (k : Int) < (xs.length : Int) := by omega
          have hpw := pow16S (show k < 10 by omega)
          have hpw2 : (2 : Int) ^ k % 65536 = (2 : Int) ^ k := hpw
          clear hx hxl hps
          cases ha : suitA xs k s.length with
          | false =>
            rw [ha] at hb1 hFS
            have HFS : Hid (walkD F (k + 1) st = st1) := Lib.hid hFS
            clear hFS hb2 ha
            go_wp2
            go_roundw
            case rel => exact ⟨k + 1, by omega, by go_num, by rw [HFS.out]; exact HPS.out⟩
            case measure => simp [intOf]; omega
          | true =>
            cases hb : t.testBit k with
            | true =>
              rw [ha, hb] at hFS
              rw [ha] at hb1
              rw [hb] at hb2
              have HFS : Hid (walkD F (k + 1) st = st1) := Lib.hid hFS
              clear hFS ha hb
              go_wp2
              go_roundw
              case rel => exact ⟨k + 1, by omega, by go_num, by rw [HFS.out]; exact HPS.out⟩
              case measure => simp [intOf]; omega
            | false =>
              rw [ha, hb] at hFS
              rw [ha] at hb1
              rw [hb] at hb2
              obtain ⟨t2, ht2⟩ : ∃ t2, t2 = t ||| 2 ^ k := ⟨_, rfl⟩
              obtain ⟨c2, hc2⟩ : ∃ c2, c2 = c + 1 := ⟨_, rfl⟩
              obtain ⟨pl, hpl⟩ : ∃ pl, pl = (s ++ [(k : Int)]).length := ⟨_, rfl⟩
              have e7 : IntKind.i64.wrap ((c : Int) + 1) = (c2 : Int) := by have := HSL.out; rw [i64S (by omega) (by omega)]; omega
              have e5 : IntKind.i64.wrap ((s.length : Int) + 1) = (pl : Int) := by
                have := HSL.out
                rw [List.length_append, List.length_singleton] at hpl
                rw [i64S (by omega) (by omega)]; omega
              have HI2 := Lib.hid (fun V hV => HIH.out (s ++ [(k : Int)]) (t ||| 2 ^ k) (c + 1) st1 V (by have := HSL.out; rw [List.length_append, List.length_singleton]; omega) (or_lt HSL.out.2.2.2.1 hlt) (by have := HSL.out; rw [List.length_append, List.length_singleton]; omega) hV)
              have HFS : Hid (walkD F (k + 1) st = prgS (suitA xs) xs.length l (s ++ [(k : Int)]) t2 c2 st1) := Lib.hid (by rw [hFS, ht2, hc2]; rfl)
              rw [← ht2, ← hc2, ← hpl] at HI2
              rw [← ht2] at e6
              clear hFS ha hb ht2 hc2 hpl
              obtain ⟨⟨u4, q4⟩, f4⟩ := HPS.out.frozen (show s.length < n by have := HSL.out; omega)
              go_upto_region 9 with (fail)
              refine abs_world (fun V => PS W0 (.slice (some ⟨g, o, none⟩) xs.length cap) n g0 g1 g2 g3 g4 g5 g6 (.func (.func 47) #[] #[.pointer (some ⟨g0, 0, none⟩), .pointer (some ⟨g1, 0, none⟩), .pointer (some ⟨g3, 0, none⟩), .pointer (some ⟨g5, 0, none⟩), .pointer (some ⟨g2, 0, none⟩), .pointer (some ⟨g6, 0, none⟩)]) (st1) (s ++ [(k : Int)]) V) (HPS.out.seat (by have := HSL.out; omega)) ?_
              clear HPS c0 c5 hc q4 f4 hb1 hb2
              rintro V hpv
              have HPS := Lib.hid (hpv.below (Below.refl _ _).drew)
              have hcf := HPS.out.cells.2.2.2.2
              clear hpv
              have enterSe' := enterSe
              refine wp_region_held_drew (S := (fun V' => V'.cell? ⟨g6, 0, none⟩ = some (.func (.func 47) #[] #[.pointer (some ⟨g0, 0, none⟩), .pointer (some ⟨g1, 0, none⟩), .pointer (some ⟨g3, 0, none⟩), .pointer (some ⟨g5, 0, none⟩), .pointer (some ⟨g2, 0, none⟩), .pointer (some ⟨g6, 0, none⟩)]))) (by kernel_rfl) hcf (fun hHeld => ?_)
              refine take_op (i := 0) (d := 58) (v := ?_) rfl rfl (by kernel_rfl) (by kernel_rfl) (by kernel_rfl) (fun _ _ _ h => h) (Or.inl ⟨by rfl, ?hy0u20⟩) hHeld ?rest0u20
              case hy0u20 =>
                intro w' hS'
                have s1 := hS'
                go_simp
                try with_reducible rfl
              simp only [List.setIfInBounds_toArray, List.set_cons_zero, List.set_cons_succ]
              refine take_op (i := 1) (d := 59) (v := ?_) rfl rfl (by kernel_rfl) (by kernel_rfl) (by kernel_rfl) (fun _ _ _ h => h) (Or.inl ⟨by rfl, ?hy1u21⟩) hHeld ?rest1u21
              case hy1u21 =>
                intro w' hS'
                have s1 := hS'
                go_simp
                try with_reducible rfl
              simp only [List.setIfInBounds_toArray, List.set_cons_zero, List.set_cons_succ]
              refine take_op (i := 2) (d := 60) (v := ?_) rfl rfl (by kernel_rfl) (by kernel_rfl) (by kernel_rfl) (fun _ _ _ h => h) (Or.inl ⟨by rfl, ?hy2u22⟩) hHeld ?rest2u22
              case hy2u22 =>
                intro w' hS'
                have s1 := hS'
                go_simp
                try with_reducible rfl
              simp only [List.setIfInBounds_toArray, List.set_cons_zero, List.set_cons_succ]
              refine take_op (i := 3) (d := 61) (v := ?_) rfl rfl (by kernel_rfl) (by kernel_rfl) (by kernel_rfl) (fun _ _ _ h => h) (Or.inl ⟨by rfl, ?hy3u23⟩) hHeld ?rest3u23
              case hy3u23 =>
                intro w' hS'
                have s1 := hS'
                go_simp
                try with_reducible rfl
              simp only [List.setIfInBounds_toArray, List.set_cons_zero, List.set_cons_succ]
              refine take_op (i := 4) (d := 62) (v := ?_) rfl rfl (by kernel_rfl) (by kernel_rfl) (by kernel_rfl) (fun _ _ _ h => h) (Or.inl ⟨by rfl, ?hy4u24⟩) hHeld ?rest4u24
              case hy4u24 =>
                intro w' hS'
                have s1 := hS'
                go_simp
                try with_reducible rfl
              simp only [List.setIfInBounds_toArray, List.set_cons_zero, List.set_cons_succ]
              refine take_op (i := 5) (d := 63) (v := ?_) rfl rfl (by kernel_rfl) (by kernel_rfl) (by kernel_rfl) (fun _ _ _ h => h) (Or.inl ⟨by rfl, ?hy5u25⟩) hHeld ?rest5u25
              case hy5u25 =>
                intro w' hS'
                have s1 := hS'
                go_simp
                try with_reducible rfl
              simp only [List.setIfInBounds_toArray, List.set_cons_zero, List.set_cons_succ]
              refine take_op (i := 6) (d := 64) (v := ?_) rfl rfl (by kernel_rfl) (by kernel_rfl) (by kernel_rfl) (fun _ _ _ h => h) (Or.inl ⟨by rfl, ?hy6u26⟩) hHeld ?rest6u26
              case hy6u26 =>
                intro w' hS'
                have s1 := hS'
                go_simp
                try with_reducible rfl
              simp only [List.setIfInBounds_toArray, List.set_cons_zero, List.set_cons_succ]
              refine take_op (i := 7) (d := 65) (v := ?_) rfl rfl (by kernel_rfl) (by kernel_rfl) (by kernel_rfl) (fun _ _ _ h => h) (Or.inl ⟨by rfl, ?hy7u27⟩) hHeld ?rest7u27
              case hy7u27 =>
                intro w' hS'
                have s1 := hS'
                go_simp
                try with_reducible rfl
              simp only [List.setIfInBounds_toArray, List.set_cons_zero, List.set_cons_succ]
              refine take_op (i := 8) (d := 66) (v := ?_) rfl rfl (by kernel_rfl) (by kernel_rfl) (by kernel_rfl) (fun _ _ _ h => h) (Or.inl ⟨by rfl, ?hy8u28⟩) hHeld ?rest8u28
              case hy8u28 =>
                intro w' hS'
                have s1 := hS'
                go_simp
                try with_reducible rfl
              simp only [List.setIfInBounds_toArray, List.set_cons_zero, List.set_cons_succ]
              refine wpAnyH_ready (rs := [9]) (by kernel_rfl) (by simp) ?_
              refine AllReadyH.cons rfl (fun K hK => ?_) AllReadyH.nil
              go_simp
              refine (HI2.out _ HPS.out).mono ?_
              rintro e V9 ⟨rfl, hps9⟩
              have HP9 := Lib.hid hps9
              refine hK.out _ _ hps9.cells.2.2.2.2 (fun hHeld2 => ?_)
              clear hK K HPS hps9
              refine wpAnyH_done (by kernel_rfl) ?_ _
              clear hHeld hHeld2 hcf
              go_wp2
              go_roundw
              case rel => exact ⟨k + 1, by omega, by go_num, by rw [HFS.out]; exact HP9.out.less⟩
              case measure => simp [intOf]; omega
        · obtain rfl : k = xs.length := by omega
          obtain ⟨pl, hpl⟩ : ∃ pl, pl = (s ++ [(-1 : Int)]).length := ⟨_, rfl⟩
          have e5 : IntKind.i64.wrap ((s.length : Int) + 1) = (pl : Int) := by
            have := HSL.out
            rw [List.length_append, List.length_singleton] at hpl
            rw [i64S (by omega) (by omega)]; omega
          have HI2 := Lib.hid (fun V hV => HIH.out (s ++ [(-1 : Int)]) t c st1 V (by have := HSL.out; rw [List.length_append, List.length_singleton]; omega) HSL.out.2.2.2.1 (by have := HSL.out; rw [List.length_append, List.length_singleton]; omega) hV)
          rw [← hpl] at HI2
          obtain ⟨⟨u4, q4⟩, f4⟩ := HPS.out.frozen (show s.length < n by have := HSL.out; omega)
          clear hFS hps hpl
          go_upto_region 12 with (fail)
          refine abs_world (fun V => PS W0 (.slice a xs.length cap) n g0 g1 g2 g3 g4 g5 g6 (.func (.func 47) #[] #[.pointer (some ⟨g0, 0, none⟩), .pointer (some ⟨g1, 0, none⟩), .pointer (some ⟨g3, 0, none⟩), .pointer (some ⟨g5, 0, none⟩), .pointer (some ⟨g2, 0, none⟩), .pointer (some ⟨g6, 0, none⟩)]) (st1) (s ++ [(-1 : Int)]) V) (HPS.out.seat (by have := HSL.out; omega)) ?_
          clear HPS c0 c5 q4 f4
          rintro V hpv
          have HPS := Lib.hid hpv
          have c6 := hpv.cells.2.2.2.2
          clear hpv
          have enterSe' := enterSe
          go_wp2_with (refine (HI2.out _ HPS.out).mono ?_; rintro e V9 ⟨rfl, hps9⟩; have HP9 := Lib.hid hps9; clear hps9)
          go_end0
          exact ⟨rfl, by rw [HV.out, HST.out]; exact HP9.out.less⟩

end Go.Proofs.YtckkemknajggpaaGreatDoor

namespace Go.Proofs.YtckkemknajggpaaGreatDoor
open Go.ChangeShapes Go.WideShapes Go.ChangeAt Go.RowKit Go.Deep Go.Joins

attribute [local go_sem] run_store_f

theorem make_intsP (n : Nat) (hn : n ≤ 1048576) (w : World) : (Instr.makeSlice 31 (.int .i64 (n : Int)) (.int .i64 (n : Int))).run Tryz.prog w = .ok (.slice (some ⟨w.heap.size, 0, none⟩) n n) (w.alloc (.cells (madeCells #[.int .i64 0] n) 2)) := by
  obtain ⟨i0, hi, hz0, hz1, hz2⟩ := info_parts info_i64S
  have h := run_make (P := Tryz.prog) w 31 2 i0 _ Tryz.underlying31 hi hz0 .i64 .i64 (n : Int) (n : Int) (by omega) (Int.le_refl _) (by rw [hz2]; omega) (by omega)
  rw [hz1] at h
  simpa [Value.cells] using h

/-- A row of one cell is new. -/
theorem new_cell (W : World) (v : Value) (T : TypeId) : (W.alloc (.cells #[v] T)).heap[W.heap.size]? = some (.cells #[v] T (0, 0)) ∧ Below W.heap.size W (W.alloc (.cells #[v] T)) :=
  ⟨heap_alloc_new _ _, (Below.refl _ _).alloc (Nat.le_refl _) _⟩

set_option maxRecDepth 100000 in
set_option maxHeartbeats 4000000 in
theorem seated_any (wv : Value) (xs : List Nat) (hx256 : ∀ x ∈ xs, x < 256) (hD : xs.length ≤ 8) (n : Nat) (hn8 : n ≤ 8) (w : World) (hwa : WAt w wv xs) :
    Calls Tryz.prog 29 #[wv, .int .i64 (n : Int)] w fun e w' => (∃ v, e = .returned (.tuple #[v, .int .i64 (prgS (suitA xs) xs.length n [] 0 0 ([], -1)).2]) ∧ Own w' w.heap.size 2 (Value.int .i64) v (prgS (suitA xs) xs.length n [] 0 0 ([], -1)).1) ∧ Below w.heap.size w w' := by
  obtain ⟨a, cap, rfl, -⟩ := id hwa
  have HSE : Hid (∀ g1 g2 g3 g4 g5 g6 V, PS w (.slice a xs.length cap) n w.heap.size g1 g2 g3 g4 g5 g6 (.func (.func 47) #[] #[.pointer (some ⟨w.heap.size, 0, none⟩), .pointer (some ⟨g1, 0, none⟩), .pointer (some ⟨g3, 0, none⟩), .pointer (some ⟨g5, 0, none⟩), .pointer (some ⟨g2, 0, none⟩), .pointer (some ⟨g6, 0, none⟩)]) ([], -1) [] V → Calls Tryz.prog 47 #[.int .i64 0, .int .u16 0, .int .i64 0, .pointer (some ⟨w.heap.size, 0, none⟩), .pointer (some ⟨g1, 0, none⟩), .pointer (some ⟨g3, 0, none⟩), .pointer (some ⟨g5, 0, none⟩), .pointer (some ⟨g2, 0, none⟩), .pointer (some ⟨g6, 0, none⟩)] V fun e W' => e = .returned (.tuple #[]) ∧ PS w (.slice a xs.length cap) n w.heap.size g1 g2 g3 g4 g5 g6 (.func (.func 47) #[] #[.pointer (some ⟨w.heap.size, 0, none⟩), .pointer (some ⟨g1, 0, none⟩), .pointer (some ⟨g3, 0, none⟩), .pointer (some ⟨g5, 0, none⟩), .pointer (some ⟨g2, 0, none⟩), .pointer (some ⟨g6, 0, none⟩)]) (prgS (suitA xs) xs.length n [] 0 0 ([], -1)) [] W') := Lib.hid (fun g1 g2 g3 g4 g5 g6 V h => seat_any w (.slice a xs.length cap) xs hwa hx256 hD n w.heap.size g1 g2 g3 g4 g5 g6 hn8 n [] 0 0 ([], -1) V (by simp) (Nat.two_pow_pos _) (Nat.le_refl _) h)
  have hmk := fun w => make_intsP n (by omega) w
  have enterSe' := enterSe
  obtain ⟨R, hR⟩ : ∃ R, R = prgS (suitA xs) xs.length n [] 0 0 ([], -1) := ⟨_, rfl⟩
  rw [← hR] at HSE ⊢
  clear hR hwa hx256 hD
  go_enter Tryz.func29, Tryz.ntmps29
  go_upto_region 1 with (fail)
  generalize he1 : w.heap.size + 1 = g1
  refine abs_world (fun W => W.heap[w.heap.size]? = some (.cells #[.slice a xs.length cap] 52 (0, 0)) ∧ W.heap[g1]? = some (.cells #[.int .i64 (n : Int)] 3 (0, 0)) ∧ Below w.heap.size w W ∧ w.heap.size < g1) ⟨(box2 w (.cells #[.slice a xs.length cap] 52) (.cells #[.int .i64 (n : Int)] 3)).1, he1 ▸ (box2 w (.cells #[.slice a xs.length cap] 52) (.cells #[.int .i64 (n : Int)] 3)).2.1, (box2 w (.cells #[.slice a xs.length cap] 52) (.cells #[.int .i64 (n : Int)] 3)).2.2, by omega⟩ ?_
  clear he1
  rintro W ⟨h0, h1, hb, l0⟩
  go_upto_region 2 with (fail)
  refine abs_world (fun V => V.heap[w.heap.size]? = some (.cells #[.slice a xs.length cap] 52 (0, 0)) ∧ V.heap[g1]? = some (.cells #[.int .i64 (n : Int)] 3 (0, 0)) ∧ V.heap[W.heap.size]? = some (.cells #[.slice none 0 0] 31 (0, 0)) ∧ Below w.heap.size w V) ⟨below_row ((Below.refl _ _).alloc (Nat.le_refl _) _) h0, below_row ((Below.refl _ _).alloc (Nat.le_refl _) _) h1, heap_alloc_new _ _, hb.alloc hb.size _⟩ ?_
  have l1 := row_lt h1
  generalize W.heap.size = g2 at *
  clear h0 h1 hb
  rintro W2 ⟨h0, h1, h2, hb⟩
  go_upto_region 3 with (fail)
  refine abs_world (fun V => V.heap[w.heap.size]? = some (.cells #[.slice a xs.length cap] 52 (0, 0)) ∧ V.heap[g1]? = some (.cells #[.int .i64 (n : Int)] 3 (0, 0)) ∧ V.heap[g2]? = some (.cells #[.slice none 0 0] 31 (0, 0)) ∧ V.heap[W2.heap.size]? = some (.cells #[.int .i64 (-1)] 3 (0, 0)) ∧ Below w.heap.size w V) ⟨below_row (new_cell _ _ _).2 h0, below_row (new_cell _ _ _).2 h1, below_row (new_cell _ _ _).2 h2, (new_cell _ _ _).1, hb.trans ((new_cell _ _ _).2.mono hb.size)⟩ ?_
  have l2 := row_lt h2
  generalize W2.heap.size = g3 at *
  clear h0 h1 h2 hb
  rintro W3 ⟨h0, h1, h2, h3, hb⟩
  have c1 : W3.cell? ⟨g1, 0, none⟩ = some (.int .i64 (n : Int)) := cell_k (k := 0) h1 rfl
  go_upto_region 4 with (fail)
  have hbm : Below W3.heap.size W3 (W3.alloc (.cells (madeCells #[.int .i64 0] n) 2)) := (Below.refl _ _).alloc (Nat.le_refl _) _
  have hsz : (W3.alloc (.cells (madeCells #[.int .i64 0] n) 2)).heap.size = W3.heap.size + 1 := by simp
  have hn4 : (W3.alloc (.cells (madeCells #[.int .i64 0] n) 2)).heap[W3.heap.size]? = some (.cells (madeCells #[.int .i64 0] n) 2 (0, 0)) := heap_alloc_new _ _
  refine abs_world (fun V => V.heap[w.heap.size]? = some (.cells #[.slice a xs.length cap] 52 (0, 0)) ∧ V.heap[g1]? = some (.cells #[.int .i64 (n : Int)] 3 (0, 0)) ∧ V.heap[g2]? = some (.cells #[.slice none 0 0] 31 (0, 0)) ∧ V.heap[g3]? = some (.cells #[.int .i64 (-1)] 3 (0, 0)) ∧ V.heap[W3.heap.size]? = some (.cells (madeCells #[.int .i64 0] n) 2 (0, 0)) ∧ V.heap[W3.heap.size + 1]? = some (.cells #[.slice (some ⟨W3.heap.size, 0, none⟩) n n] 31 (0, 0)) ∧ Below w.heap.size w V) ?hw ?_
  case hw =>
    have k := new_cell (W3.alloc (.cells (madeCells #[.int .i64 0] n) 2)) (.slice (some ⟨W3.heap.size, 0, none⟩) n n) 31
    have hbk := hbm.trans (k.2.mono hbm.size)
    have k1 := k.1
    rw [hsz] at k1
    exact ⟨below_row hbk h0, below_row hbk h1, below_row hbk h2, below_row hbk h3, below_row k.2 hn4, k1, hb.trans (hbk.mono hb.size)⟩
  have l3 := row_lt h3
  clear hbm hsz hn4 c1
  have l4 : W3.heap.size < W3.heap.size + 1 := Nat.lt_succ_self _
  generalize W3.heap.size + 1 = g5 at *
  generalize W3.heap.size = g4 at *
  clear h0 h1 h2 h3 hb
  rintro W4 ⟨h0, h1, h2, h3, h4, h5, hb⟩
  go_upto_region 6 with (fail)
  refine abs_world (fun V => PS w (.slice a xs.length cap) n w.heap.size g1 g2 g3 g4 g5 W4.heap.size (.func (.func 47) #[] #[.pointer (some ⟨w.heap.size, 0, none⟩), .pointer (some ⟨g1, 0, none⟩), .pointer (some ⟨g3, 0, none⟩), .pointer (some ⟨g5, 0, none⟩), .pointer (some ⟨g2, 0, none⟩), .pointer (some ⟨W4.heap.size, 0, none⟩)]) ([], -1) [] V) ?hw2 ?_
  case hw2 =>
    have k := new_cell W4 (.func (.func 47) #[] #[.pointer (some ⟨w.heap.size, 0, none⟩), .pointer (some ⟨g1, 0, none⟩), .pointer (some ⟨g3, 0, none⟩), .pointer (some ⟨g5, 0, none⟩), .pointer (some ⟨g2, 0, none⟩), .pointer (some ⟨W4.heap.size, 0, none⟩)]) 100
    exact ⟨below_row k.2 h0, below_row k.2 h1, ⟨_, below_row k.2 h2, none, 0, rfl, Nat.zero_le _, Nat.le_refl _, .inl ⟨rfl, rfl⟩⟩, below_row k.2 h3, ⟨_, below_row k.2 h4, by rw [size_madeCells], fun j x hx => by simp at hx⟩, below_row k.2 h5, k.1, hb.trans (k.2.mono hb.size), Nat.le_refl _, l0, l1, l2, l3, l4, row_lt h5⟩
  generalize W4.heap.size = g6 at *
  clear h0 h1 h2 h3 h4 h5 hb l0 l1 l2 l3 l4
  rintro V hps
  have HPS := Lib.hid hps
  have HS1 := Lib.hid (HSE.out g1 g2 g3 g4 g5 g6 V hps)
  have c6 := hps.cells.2.2.2.2
  clear hps HSE
  go_upto_region 7 with (with_reducible refine HS1.out.mono ?_; rintro e V9 ⟨rfl, hps9⟩; have HP9 := Lib.hid hps9; clear hps9)
  clear HPS HS1 c6
  obtain ⟨v9, k2, hown⟩ := HP9.out.h2
  have c2 := cell_k (k := 0) k2 rfl
  have c3 := HP9.out.cells.2.2.1
  have HO := Lib.hid (own_below hown (Below.refl _ _) (show w.heap.size ≤ g6 + 1 by have := HP9.out.b0; have := HP9.out.l0; have := HP9.out.l1; have := HP9.out.l2; have := HP9.out.l3; have := HP9.out.l4; have := HP9.out.l5; omega))
  have HBB := Lib.hid HP9.out.hb
  obtain ⟨a9, c9, rfl, -⟩ := id hown
  have hb := Below.refl V9.heap.size V9
  clear hown k2 HP9
  refine wp_region_held_drew (S := (fun V => Below V9.heap.size V9 V)) (by kernel_rfl) ((Below.refl _ _).drew) (fun hHeld => ?_)
  refine take_op (i := 0) (d := 15) (v := ?_) rfl rfl (by kernel_rfl) (by kernel_rfl) (by kernel_rfl) (fun _ _ _ h => h) (Or.inl ⟨by rfl, ?hy0u29⟩) hHeld ?rest0u29
  case hy0u29 =>
    intro w' hS'
    have c2 := cell_belowB hS' c2
    have c3 := cell_belowB hS' c3
    go_simp
    try with_reducible rfl
  simp only [List.setIfInBounds_toArray, List.set_cons_zero, List.set_cons_succ]
  refine take_op (i := 1) (d := 16) (v := ?_) rfl rfl (by kernel_rfl) (by kernel_rfl) (by kernel_rfl) (fun _ _ _ h => h) (Or.inl ⟨by rfl, ?hy1u30⟩) hHeld ?rest1u30
  case hy1u30 =>
    intro w' hS'
    have c2 := cell_belowB hS' c2
    have c3 := cell_belowB hS' c3
    go_simp
    try with_reducible rfl
  simp only [List.setIfInBounds_toArray, List.set_cons_zero, List.set_cons_succ]
  refine take_op (i := 2) (d := 4) (v := ?_) rfl rfl (by kernel_rfl) (by kernel_rfl) (by kernel_rfl) (fun _ _ _ h => h) (Or.inl ⟨by rfl, ?hy2u31⟩) hHeld ?rest2u31
  case hy2u31 =>
    intro w' hS'
    go_simp
    try with_reducible rfl
  simp only [List.setIfInBounds_toArray, List.set_cons_zero, List.set_cons_succ]
  refine take_op (i := 3) (d := 5) (v := ?_) rfl rfl (by kernel_rfl) (by kernel_rfl) (by kernel_rfl) (fun _ _ _ h => h) (Or.inl ⟨by rfl, ?hy3u32⟩) hHeld ?rest3u32
  case hy3u32 =>
    intro w' hS'
    go_simp
    try with_reducible rfl
  simp only [List.setIfInBounds_toArray, List.set_cons_zero, List.set_cons_succ]
  refine wpAnyH_done (by kernel_rfl) ?_ _
  revert hHeld
  generalize V9.drew = W1
  intro hHeld
  replace c2 := cell_belowB hHeld c2
  replace c3 := cell_belowB hHeld c3
  replace hb := hb.trans (hHeld.mono hb.size)
  clear hHeld
  have HF := Lib.hid (And.intro (own_below HO.out hb (show w.heap.size ≤ w.heap.size from Nat.le_refl _)) (HBB.out.trans (hb.mono HBB.out.size)))
  clear hb HO HBB
  go_wp2
  go_ret2
  exact ⟨⟨_, rfl, HF.out.1⟩, HF.out.2⟩

end Go.Proofs.YtckkemknajggpaaGreatDoor
