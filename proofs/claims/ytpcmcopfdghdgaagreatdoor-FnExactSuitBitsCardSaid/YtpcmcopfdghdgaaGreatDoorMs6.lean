/-
  SbS, LawC, SbL, SbW, Open.
-/
import Derived.OwnWalk
import Derived.Laws.AppendOwn
import Derived.Maps.AppendAt
import Derived.Test.YtpcmcopfdghdgaaGreatDoorMs4
import Derived.Test.YtpcmcopfdghdgaaGreatDoorMs5
import Derived.Test.YtpcmcopfdghdgaaGreatDoorRows
import Derived.Test.YtpcmcopfdghdgaaGreatDoorMs1
import Derived.Test.YtpcmcopfdghdgaaGreatDoorMs2
import Derived.WalkKit
import Derived.ProofKit
import Derived.OpenShut
import Derived.ChangeVars
import Derived.JoinedOf
import Derived.LaidLaws
import Derived.Stop.Joined
import Derived.OpenVars
import Derived.Test.YtpcmcopfdghdgaaGreatDoorRoomE
import Derived.Test.YtpcmcopfdghdgaaGreatDoorRoomK
import Derived.Test.YtpcmcopfdghdgaaGreatDoorSameN
import Derived.Test.YtpcmcopfdghdgaaGreatDoorMs3

namespace Go.Proofs.YtpcmcopfdghdgaaGreatDoor
open Go.RowKit Go.Deep

attribute [local go_sem] run_store_f

theorem grown_belowS {w w' : World} (h : Below w.heap.size w w') (row : Option Nat) : w.grownBy w' row := ⟨h.os, h.tape, h.output, h.size, fun k hk _ => h.block k hk⟩

theorem owns_belowS {W w1 : World} {base k : Nat} {e : TypeId} {v : Value} {xs : List Value} (h : W.ownsRow base e 1 v k xs) (hb : Below W.heap.size W w1) : w1.ownsRow base e 1 v k xs :=
  h.kept (grown_belowS hb none) (by cases v.ownBlock <;> simp)

theorem own_of_rowS {α : Type} {W : World} {base : Nat} {e : TypeId} {mk : α → Value} {v : Value} {xs : List α} (h : W.ownsRow base e 1 v xs.length (xs.map mk)) (_ : xs.length ≤ maxLen) : Own W base e mk v xs := by
  rcases h.2 with ⟨rfl, hz⟩ | ⟨g, cap, cur, rfl, hbg, hg, hnc, hcm, hsz, htk⟩
  · exact ⟨none, 0, by rw [hz], Nat.zero_le _, by omega, .inl ⟨rfl, List.eq_nil_of_length_eq_zero hz⟩⟩
  · refine ⟨_, cap, rfl, hcm, hnc, .inr ⟨g, cur, rfl, hbg, hg, fun k hk => ?_⟩⟩
    have h1 : (cur.toList.take (xs.length * 1))[k]? = cur[k]? := by
      rw [List.getElem?_take_of_lt (by omega), Array.getElem?_toList]
    rw [← h1, htk, List.getElem?_map]

theorem row_baseS {W : World} {base k : Nat} {e : TypeId} {v : Value} {xs : List Value} (h : W.ownsRow base e 1 v k xs) : ∀ j, v.ownBlock = some j → base ≤ j := fun j e => (h.lt j e).1

/-- What the model gives back with a code. -/
structure SbAns (pall : Bool) (cd : Int) (np : Nat) (c : Int) (xs zs : List Int) : Prop where
  bad : pall = false → c = 1 ∧ xs = []
  code : pall = true → cd ≠ 0 → c = cd ∧ xs = []
  many : pall = true → cd = 0 → 8 < np → c = 3 ∧ xs = []
  fine : pall = true → cd = 0 → np ≤ 8 → c = 0 ∧ xs = zs

set_option maxRecDepth 100000 in
set_option maxHeartbeats 16000000 in
theorem l03Bits_any (wd hg : Int) (iw : I8 wd) (ih : I8 hg) (sv dv pv : Value) (ws : List Wn) (hwf : ∀ x ∈ ws, WnWf x) (ds : List Dk) (hdf : ∀ x ∈ ds, DkWf x) (ps : List Pn) (c : Int) (xs : List Int) (hans : SbAns (ps.all fitP) (codeD (okRm wd hg ws) (true && ds.all (fitD wd hg)) ds.length) ps.length c xs (ds.map (sbD wd hg ws ps))) (gb : Nat) (T : TypeId) (fr : Nat × Nat) (w : World) (hb0 : w.heap[gb]? = some (.cells (roomC wd hg sv) T fr)) (hws : WinsAt w sv ws) (hds : DksAt w dv ds) (hps : PnsAt w pv ps) :
    Calls Tryz.prog 77 #[.pointer (some ⟨gb, 0, none⟩), dv, pv] w fun e w' => (∃ v, e = .returned (.tuple #[v, .int .i64 c]) ∧ Own w' w.heap.size 139 (Value.int .u16) v xs) ∧ Below w.heap.size w w' := by
  obtain ⟨i0, hin, hz0, hz1, hz2⟩ := info_parts info_u16z
  have HDS := Lib.hid (fun V h1 h2 h3 => l03Desks_any wd hg iw ih sv dv ws hwf ds hdf true gb T fr V h1 h2 h3)
  have HSU : Hid (codeD (okRm wd hg ws) (true && ds.all (fitD wd hg)) ds.length = 0 → ∀ (x : Dk), x ∈ ds → ∀ (m : Nat) (y : Pn), ps[m]? = some y → ∀ V, V.heap[gb]? = some (.cells (roomC wd hg sv) T fr) → WinsAt V sv ws → Calls Tryz.prog 115 #[.pointer (some ⟨gb, 0, none⟩), .agg (dkC x), .agg (pnC y)] V fun e w' => e = .returned (.bool (suL (litW wd hg (x.1, x.2.1) (fun _ => true) ws) (litW wd hg (x.1, x.2.1) (glW wd hg x.1 x.2.1 x.2.2) ws) ps m)) ∧ Below V.heap.size V w') := Lib.hid (fun hc x hx m y hy V h1 h2 => by
    have h3 : okRm wd hg ws = true ∧ ds.all (fitD wd hg) = true := by
      unfold codeD at hc
      cases h1 : okRm wd hg ws <;> cases h2 : ds.all (fitD wd hg) <;> rw [h1, h2] at hc <;> simp at hc
      exact ⟨rfl, rfl⟩
    obtain ⟨f1, f2, f3⟩ := fitD_get (List.all_eq_true.1 h3.2 x hx)
    have := l03Suits_any wd hg sv ws (okRm_get h3.1) hwf x.1 x.2.1 x.2.2 f1 y.1 y.2.1 y.2.2 gb T fr V h1 h2
    unfold suL
    rw [hy]
    exact this)
  have HN8 : Hid (codeD (okRm wd hg ws) (true && ds.all (fitD wd hg)) ds.length = 0 → ds.length ≤ 8) := Lib.hid (fun hc => by
    unfold codeD at hc
    generalize ds.length = n at *
    cases h1 : okRm wd hg ws <;> cases h2 : ds.all (fitD wd hg) <;> rw [h1, h2] at hc <;> simp at hc
    omega)
  have HAN := Lib.hid hans
  have HB := Lib.hid hb0
  have HW := Lib.hid hws
  have HDK := Lib.hid hds
  have HPN := Lib.hid hps
  have hFF : ∀ x, sbD wd hg ws ps x = pbN (suL (litW wd hg (x.1, x.2.1) (fun _ => true) ws) (litW wd hg (x.1, x.2.1) (glW wd hg x.1 x.2.1 x.2.2) ws) ps) ps.length := fun x => rfl
  obtain ⟨da, dc, rfl, hdl1, hdl2, -⟩ := hds
  obtain ⟨pa, pc, rfl, hpl1, hpl2, -⟩ := hps
  unfold maxLen at hdl2 hpl2
  clear hans hb0 hws iw ih hwf hdf
  generalize codeD (okRm wd hg ws) (true && ds.all (fitD wd hg)) ds.length = cd at *
  obtain ⟨QF, hQF⟩ : ∃ QF : Dk → Nat → Bool, QF = fun x => suL (litW wd hg (x.1, x.2.1) (fun _ => true) ws) (litW wd hg (x.1, x.2.1) (glW wd hg x.1 x.2.1 x.2.2) ws) ps := ⟨_, rfl⟩
  have HSU2 : Hid (cd = 0 → ∀ (x : Dk), x ∈ ds → ∀ (m : Nat) (y : Pn), ps[m]? = some y → ∀ V, V.heap[gb]? = some (.cells (roomC wd hg sv) T fr) → WinsAt V sv ws → Calls Tryz.prog 115 #[.pointer (some ⟨gb, 0, none⟩), .agg (dkC x), .agg (pnC y)] V fun e w' => e = .returned (.bool (QF x m)) ∧ Below V.heap.size V w') := Lib.hid (by rw [hQF]; exact HSU.out)
  have HFF : Hid (∀ x, sbD wd hg ws ps x = pbN (QF x) ps.length) := Lib.hid (by rw [hQF]; exact hFF)
  clear HSU hFF hQF
  generalize sbD wd hg ws ps = F at *
  generalize hnd : ds.length = nd at *
  have HND := Lib.hid hnd
  generalize hnp : ps.length = np at *
  have HNP := Lib.hid hnp
  clear hnd hnp
  go_enter Tryz.func77, Tryz.ntmps77
  go_wp2
  have hrow0 : (w.alloc (.cells #[] 139)).ownsRow w.heap.size 139 1 (.slice (some ⟨w.heap.size, 0, none⟩) 0 0) 0 [] := World.ownsRow_made _ _ _ (Nat.le_refl _) (Nat.zero_le _) rfl
  have HR0 := Lib.hid hrow0
  clear hrow0
  go_loopw [9] (fun i wr => ∃ k : Nat, k ≤ np ∧ i = .int .i64 (k : Int) ∧ (ps.take k).all fitP = true ∧ wr.ownsRow w.heap.size 139 1 (.slice (some ⟨w.heap.size, 0, none⟩) 0 0) 0 [] ∧ Below w.heap.size w wr) (fun i _ => np - (intOf i).toNat)
  case atStart => exact ⟨0, Nat.zero_le _, rfl, rfl, HR0.out, (Below.refl _ _).alloc (Nat.le_refl _) _⟩
  case round =>
    clear HR0
    obtain ⟨k, hk, rfl, hall, hrow, hb⟩ := hrel
    have HALL := Lib.hid hall
    have HROW := Lib.hid hrow
    clear hall hrow
    by_cases hlt : k < np
    · have hx : ps[k]? = some (ps[k]'(by rw [HNP.out]; exact hlt)) := List.getElem?_eq_getElem _
      obtain ⟨g, o, rfl, hc⟩ := pn_at (pns_below HPN.out hb) hx
      have HCl := Lib.hid hc
      have hts : ps.take (k + 1) = ps.take k ++ [ps[k]'(by rw [HNP.out]; exact hlt)] := by rw [List.take_succ_eq_append_getElem]
      generalize (ps[k]'(by rw [HNP.out]; exact hlt)) = x at *
      have HTS := Lib.hid hts
      have HXM := Lib.hid (List.mem_of_getElem? hx)
      have z1 : (k : Int) < (np : Int) := by omega
      have z2 : (0 : Int) ≤ (k : Int) := by omega
      clear hc hx hts
      cases hf : fitP x with
      | true =>
        have HF := Lib.hid hf
        have HVP := Lib.hid (fun V => specValidPerson_any x.1 x.2.1 x.2.2 V)
        have HVP2 : Hid (∀ V, Calls Tryz.prog 113 #[.agg (pnC x)] V fun e w' => e = .returned (.bool true) ∧ Below V.heap.size V w') := Lib.hid (fun V => by have := HVP.out V; rw [show okPe x.1 x.2.1 x.2.2 = true from HF.out] at this; exact this)
        clear hf HVP
        go_wp2_with (first | (refine wpList_load_cells rfl 134 _ rfl g (o + k * 3) 3 rfl _ Tryz.underlying134 rfl info_pers (pnC x) rfl HCl.out ?_) | (go_at_call 113; refine (HVP2.out _).mono ?_; rintro e W1 ⟨rfl, hb1⟩))
        go_roundw
        case rel => exact ⟨k + 1, by omega, by go_num, by rw [HTS.out, List.all_append, HALL.out]; simp [HF.out], owns_belowS HROW.out hb1, hb.trans (hb1.mono hb.size)⟩
        case measure => simp [intOf]; omega
      | false =>
        have HF := Lib.hid hf
        have HVP := Lib.hid (fun V => specValidPerson_any x.1 x.2.1 x.2.2 V)
        have HVP2 : Hid (∀ V, Calls Tryz.prog 113 #[.agg (pnC x)] V fun e w' => e = .returned (.bool false) ∧ Below V.heap.size V w') := Lib.hid (fun V => by have := HVP.out V; rw [show okPe x.1 x.2.1 x.2.2 = false from HF.out] at this; exact this)
        have HBD := Lib.hid (HAN.out.bad (by
          rw [Bool.eq_false_iff]
          intro ha
          have := List.all_eq_true.1 ha x HXM.out
          rw [HF.out] at this; cases this))
        clear hf HVP
        go_wp2_with (first | (refine wpList_load_cells rfl 134 _ rfl g (o + k * 3) 3 rfl _ Tryz.underlying134 rfl info_pers (pnC x) rfl HCl.out ?_) | (go_at_call 113; refine (HVP2.out _).mono ?_; rintro e W1 ⟨rfl, hb1⟩))
        go_ret2
        rw [HBD.out.1, HBD.out.2]
        exact ⟨⟨_, rfl, own_of_rowS (xs := ([] : List Int)) (owns_belowS HROW.out hb1) (by simp)⟩, hb.trans (hb1.mono hb.size)⟩
    · obtain rfl : k = np := by omega
      have hpall : ps.all fitP = true := by have := HALL.out; rwa [List.take_of_length_le (by rw [HNP.out]; exact Nat.le_refl _)] at this
      have HPA := Lib.hid hpall
      clear hpall
      have HDX := Lib.hid (HDS.out wr (below_row hb HB.out) (wins_below HW.out hb) (dks_below HDK.out hb))
      clear HDS HALL
      by_cases hbadc : ¬ (cd = 0 ∧ k ≤ 8)
      · have HCX : Hid ((cd ≠ 0 ∧ c = cd ∧ xs = []) ∨ (cd = 0 ∧ 8 < k ∧ c = 3 ∧ xs = [])) := Lib.hid (by
          by_cases h0 : cd = 0
          · have h8 : 8 < k := by
              apply Classical.byContradiction
              intro h; exact hbadc ⟨h0, by omega⟩
            exact .inr ⟨h0, h8, HAN.out.many HPA.out h0 h8⟩
          · exact .inl ⟨h0, HAN.out.code HPA.out h0⟩)
        clear hbadc
        rcases HCX.out with ⟨h0, rfl, hxs⟩ | ⟨h0, h8, rfl, hxs⟩
        · have zc : (c == 0) = false := by simpa using h0
          have HXS := Lib.hid hxs
          clear hxs HCX HAN
          go_upto_region 11 with (go_at_call 114; refine HDX.out.mono ?_; rintro e W1 ⟨rfl, hb1⟩; have HROW1 := Lib.hid (owns_belowS HROW.out hb1); replace hb := hb.trans (hb1.mono hb.size); clear hb1)
          go_loopw [8, 11] (fun o i wx => o = .slice (some ⟨w.heap.size, 0, none⟩) 0 0 ∧ i = .int .i64 0 ∧ wx.ownsRow w.heap.size 139 1 (.slice (some ⟨w.heap.size, 0, none⟩) 0 0) 0 [] ∧ Below w.heap.size w wx) (fun _ _ _ => 0)
          case atStart => exact ⟨rfl, rfl, HROW1.out, hb⟩
          case round =>
            obtain ⟨rfl, rfl, hrw, hbx⟩ := hrel
            have HRW := Lib.hid hrw
            clear hrw
            by_cases hz : (0 : Int) < (nd : Int)
            · go_wp2
              go_ret2
              rw [HXS.out]
              exact ⟨⟨_, rfl, own_of_rowS (xs := ([] : List Int)) HRW.out (by simp)⟩, hbx⟩
            · go_wp2
              go_ret2
              rw [HXS.out]
              exact ⟨⟨_, rfl, own_of_rowS (xs := ([] : List Int)) HRW.out (by simp)⟩, hbx⟩
        · subst h0
          have z8 : (8 : Int) < (k : Int) := by omega
          have HXS := Lib.hid hxs
          clear hxs HCX HAN
          go_upto_region 11 with (go_at_call 114; refine HDX.out.mono ?_; rintro e W1 ⟨rfl, hb1⟩; have HROW1 := Lib.hid (owns_belowS HROW.out hb1); replace hb := hb.trans (hb1.mono hb.size); clear hb1)
          go_loopw [8, 11] (fun o i wx => o = .slice (some ⟨w.heap.size, 0, none⟩) 0 0 ∧ i = .int .i64 0 ∧ wx.ownsRow w.heap.size 139 1 (.slice (some ⟨w.heap.size, 0, none⟩) 0 0) 0 [] ∧ Below w.heap.size w wx) (fun _ _ _ => 0)
          case atStart => exact ⟨rfl, rfl, HROW1.out, hb⟩
          case round =>
            obtain ⟨rfl, rfl, hrw, hbx⟩ := hrel
            have HRW := Lib.hid hrw
            clear hrw
            by_cases hz : (0 : Int) < (nd : Int)
            · go_wp2
              go_ret2
              rw [HXS.out]
              exact ⟨⟨_, rfl, own_of_rowS (xs := ([] : List Int)) HRW.out (by simp)⟩, hbx⟩
            · go_wp2
              go_ret2
              rw [HXS.out]
              exact ⟨⟨_, rfl, own_of_rowS (xs := ([] : List Int)) HRW.out (by simp)⟩, hbx⟩
      · obtain ⟨h0, h8⟩ : cd = 0 ∧ k ≤ 8 := by
          apply Classical.byContradiction
          exact hbadc
        clear hbadc
        subst h0
        obtain ⟨hc0, hxs⟩ := HAN.out.fine HPA.out rfl h8
        subst hc0
        have HXS := Lib.hid hxs
        have HSX := Lib.hid (HSU2.out rfl)
        have z9 : nd ≤ 8 := HN8.out rfl
        have z8 : (k : Int) ≤ 8 := by omega
        have z8' : ¬ (8 : Int) < (k : Int) := by omega
        clear hxs HAN HSU2
        go_upto_region 11 with (go_at_call 114; refine HDX.out.mono ?_; rintro e W1 ⟨rfl, hb1⟩; have HROW1 := Lib.hid (owns_belowS HROW.out hb1); replace hb := hb.trans (hb1.mono hb.size); clear hb1)
        clear HROW HDX
        go_loopw [8, 11] (fun o i wx => ∃ (vo : Value) (j : Nat), vo = o ∧ j ≤ nd ∧ i = .int .i64 (j : Int) ∧ wx.ownsRow w.heap.size 139 1 o ((ds.take j).map F).length (((ds.take j).map F).map (Value.int .u16)) ∧ Below w.heap.size w wx) (fun _ i _ => nd - (intOf i).toNat)
        case atStart => exact ⟨_, 0, rfl, Nat.zero_le _, rfl, HROW1.out, hb⟩
        case round =>
          clear HROW1 hb
          obtain ⟨vo, j, rfl, hj, rfl, hrow, hb⟩ := hrel
          have HROW := Lib.hid hrow
          clear hrow
          obtain ⟨wo, rfl⟩ : ∃ wo : World, wo = wr := ⟨_, rfl⟩
          by_cases hlt2 : j < nd
          · have hx : ds[j]? = some (ds[j]'(by rw [HND.out]; exact hlt2)) := List.getElem?_eq_getElem _
            obtain ⟨g, o, rfl, hc⟩ := dk_at (dks_below HDK.out hb) hx
            have hts : ds.take (j + 1) = ds.take j ++ [ds[j]'(by rw [HND.out]; exact hlt2)] := by rw [List.take_succ_eq_append_getElem]
            generalize (ds[j]'(by rw [HND.out]; exact hlt2)) = x at *
            have HXM := Lib.hid (List.mem_of_getElem? hx)
            have HDX := Lib.hid hx
            have hlj : ((ds.take j).map F).length = j := by rw [List.length_map, List.length_take, HND.out]; omega
            have HTS : Hid ((ds.take (j + 1)).map F = (ds.take j).map F ++ [F x]) := Lib.hid (by rw [hts, List.map_append]; rfl)
            have z1 : (j : Int) < (nd : Int) := by omega
            have z2 : (0 : Int) ≤ (j : Int) := by omega
            have z3 : IntKind.i64.wrap ((j : Int) + 1) = (j : Int) + 1 := by rw [IntWalk.i64_in _ (by omega)]
            have HSY0 := Lib.hid (HSX.out x HXM.out)
            have HFX := Lib.hid (HFF.out x)
            clear hc hx hts HSX
            generalize QF x = q at *
            go_upto_region 15 with (fail)
            go_loopw [12, 13] (fun b i2 w2 => ∃ m : Nat, m ≤ k ∧ i2 = .int .i64 (m : Int) ∧ b = .int .u16 (pbN q m) ∧ w2.ownsRow w.heap.size 139 1 vo ((ds.take j).map F).length (((ds.take j).map F).map (Value.int .u16)) ∧ Below w.heap.size w w2) (fun _ i2 _ => k - (intOf i2).toNat)
            case atStart => exact ⟨0, Nat.zero_le _, rfl, rfl, HROW.out, hb⟩
            case round =>
              clear HROW hb
              obtain ⟨m, hm, rfl, rfl, hrow, hb⟩ := hrel
              have HROW := Lib.hid hrow
              clear hrow
              by_cases hlt3 : m < k
              · have hy : ps[m]? = some (ps[m]'(by rw [HNP.out]; exact hlt3)) := List.getElem?_eq_getElem _
                obtain ⟨g2, o2, rfl, hcp⟩ := pn_at (pns_below HPN.out hb) hy
                generalize (ps[m]'(by rw [HNP.out]; exact hlt3)) = y at *
                obtain ⟨g', o', eg, hcd⟩ := dk_at (dks_below HDK.out hb) HDX.out
                injection eg with eg
                injection eg with eg1 eg2 _
                subst eg1 eg2
                have HCl := Lib.hid hcd
                have HCp := Lib.hid hcp
                have HSY := Lib.hid (HSY0.out m y hy)
                have H0 := Lib.hid (below_row hb HB.out)
                have HV := Lib.hid (wins_below HW.out hb)
                have y1 : (m : Int) < (k : Int) := by omega
                have y2 : (0 : Int) ≤ (m : Int) := by omega
                have y3 : IntKind.u64.wrap (m : Int) = (m : Int) := by rw [IntWalk.u64_in _ (by omega)]
                have y4 : (m : Int) ≤ 16 := by omega
                have hpw := pow16S (show m < 10 by omega)
                have hpw2 : (2 : Int) ^ m % 65536 = (2 : Int) ^ m := hpw
                clear hcd hcp hy
                go_upto_region 17 with (fail)
                refine wp_region_held_drew (S := (fun V => Below wr.heap.size wr V)) (by kernel_rfl) ((Below.refl _ _).drew) (fun hHeld => ?_)
                refine take_op (i := 0) (d := 54) (v := ?_) rfl rfl (by kernel_rfl) (by kernel_rfl) (by kernel_rfl) (fun _ _ _ h => h) (Or.inl ⟨by rfl, ?hy0y61⟩) hHeld ?rest0y61
                case hy0y61 =>
                  intro w' hS'
                  go_simp
                  try with_reducible rfl
                simp only [List.setIfInBounds_toArray, List.set_cons_zero, List.set_cons_succ]
                refine take_op (i := 1) (d := 55) (v := ?_) rfl rfl (by kernel_rfl) (by kernel_rfl) (by kernel_rfl) (fun _ _ _ h => h) (Or.inl ⟨by rfl, ?hy1y62⟩) hHeld ?rest1y62
                case hy1y62 =>
                  intro w' hS'
                  go_simp
                  try with_reducible rfl
                simp only [List.setIfInBounds_toArray, List.set_cons_zero, List.set_cons_succ]
                refine take_op (i := 2) (d := 56) (v := ?_) rfl rfl (by kernel_rfl) (by kernel_rfl) (by kernel_rfl) (fun _ _ _ h => h) (Or.inl ⟨by rfl, ?hy2y63⟩) hHeld ?rest2y63
                case hy2y63 =>
                  intro w' hS'
                  go_simp
                  try with_reducible rfl
                simp only [List.setIfInBounds_toArray, List.set_cons_zero, List.set_cons_succ]
                refine take_op (i := 3) (d := 57) (v := ?_) rfl rfl (by kernel_rfl) (by kernel_rfl) (by kernel_rfl) (fun _ _ _ h => h) (Or.inl ⟨by rfl, ?hy3y64⟩) hHeld ?rest3y64
                case hy3y64 =>
                  intro w' hS'
                  go_simp
                  try with_reducible rfl
                simp only [List.setIfInBounds_toArray, List.set_cons_zero, List.set_cons_succ]
                refine take_op (i := 4) (d := 58) (v := .agg (dkC x)) rfl rfl (by kernel_rfl) (by kernel_rfl) (by kernel_rfl) (fun _ _ _ h => h) (yields_cells (by rfl) 128 (.tmp 57) (by rfl) g (o + j * 3) 3 (by rfl) _ Tryz.underlying128 rfl info_desk (dkC x) rfl (fun V h => fun jj vv hv => cell_below h (HCl.out jj vv hv))) hHeld ?_
                simp only [List.setIfInBounds_toArray, List.set_cons_zero, List.set_cons_succ]
                refine take_op (i := 5) (d := 59) (v := ?_) rfl rfl (by kernel_rfl) (by kernel_rfl) (by kernel_rfl) (fun _ _ _ h => h) (Or.inl ⟨by rfl, ?hy5y65⟩) hHeld ?rest5y65
                case hy5y65 =>
                  intro w' hS'
                  go_simp
                  try with_reducible rfl
                simp only [List.setIfInBounds_toArray, List.set_cons_zero, List.set_cons_succ]
                refine take_op (i := 6) (d := 60) (v := ?_) rfl rfl (by kernel_rfl) (by kernel_rfl) (by kernel_rfl) (fun _ _ _ h => h) (Or.inl ⟨by rfl, ?hy6y66⟩) hHeld ?rest6y66
                case hy6y66 =>
                  intro w' hS'
                  go_simp
                  try with_reducible rfl
                simp only [List.setIfInBounds_toArray, List.set_cons_zero, List.set_cons_succ]
                refine take_op (i := 7) (d := 61) (v := ?_) rfl rfl (by kernel_rfl) (by kernel_rfl) (by kernel_rfl) (fun _ _ _ h => h) (Or.inl ⟨by rfl, ?hy7y67⟩) hHeld ?rest7y67
                case hy7y67 =>
                  intro w' hS'
                  go_simp
                  try with_reducible rfl
                simp only [List.setIfInBounds_toArray, List.set_cons_zero, List.set_cons_succ]
                refine take_op (i := 8) (d := 62) (v := .agg (pnC y)) rfl rfl (by kernel_rfl) (by kernel_rfl) (by kernel_rfl) (fun _ _ _ h => h) (yields_cells (by rfl) 134 (.tmp 61) (by rfl) g2 (o2 + m * 3) 3 (by rfl) _ Tryz.underlying134 rfl info_pers (pnC y) rfl (fun V h => fun jj vv hv => cell_below h (HCp.out jj vv hv))) hHeld ?_
                simp only [List.setIfInBounds_toArray, List.set_cons_zero, List.set_cons_succ]
                refine wpAnyH_ready (rs := [9]) (by kernel_rfl) (by simp) ?_
                refine AllReadyH.cons rfl (fun K hK => ?_) AllReadyH.nil
                go_simp
                refine (HSY.out _ (below_row hHeld H0.out) (wins_below HV.out hHeld)).mono ?_
                rintro e W5 ⟨rfl, hb5⟩
                refine hK.out _ _ (hHeld.trans (hb5.mono hHeld.size)) (fun hHeld2 => ?_)
                clear hK K
                replace hHeld := hHeld2
                clear hHeld2
                clear hb5
                refine wpAnyH_done (by kernel_rfl) ?_ _
                have HROW5 := Lib.hid (owns_belowS HROW.out hHeld)
                have hb5 := hb.trans (hHeld.mono hb.size)
                clear hHeld HCl HCp H0 HV
                cases hq : q m with
                | true =>
                  have HE := Lib.hid (pbN_hit hq)
                  go_wp2
                  go_roundw
                  case rel => exact ⟨m + 1, by omega, by go_num, by rw [HE.out], HROW5.out, hb5⟩
                  case measure => simp [intOf]; omega
                | false =>
                  have HE := Lib.hid (pbN_miss hq)
                  go_wp2
                  go_roundw
                  case rel => exact ⟨m + 1, by omega, by go_num, by rw [HE.out], HROW5.out, hb5⟩
                  case measure => simp [intOf]; omega
              · obtain rfl : m = k := by omega
                have hrow := HROW.out
                have hsz := hb.size
                go_wp2_with (at_builtin; go_loud (refine wpList_append_own _ rfl _ _ 65 rfl w.heap.size 139 i0 (.int .u16 0) 1 2 Tryz.underlying65 hin hz0 hz1 hz2 rfl (by decide) _ _ _ rfl (hrow.alloc _) ⟨wr.heap.size, 0, none⟩ 1 1 [.int .u16 (pbN q m)] rfl rfl (cell_one_new _ _ _) (by simp [Value.oneCell']) (by unfold maxLen; omega) (by omega) (by simp; omega) ?_; intro v' w1 hown' hgrow _))
                go_roundw
                case rel => exact ⟨_, j + 1, rfl, by omega, by first | (simp; done) | (simp; omega), by rw [HTS.out, HFX.out]; simpa using hown', (hb.alloc (by omega) _).grown hgrow (by simp; omega) (row_baseS hrow)⟩
                case measure => simp [intOf]; omega
          · obtain rfl : j = nd := by omega
            have HXS2 : Hid (xs = (ds.take j).map F) := Lib.hid (by rw [HXS.out, List.take_of_length_le (by rw [HND.out]; exact Nat.le_refl _)])
            have hlj : ((ds.take j).map F).length = j := by rw [List.length_map, List.length_take, HND.out]; omega
            have HR2 : Hid (Own wo w.heap.size 139 (Value.int .u16) vo ((ds.take j).map F)) := own_of_rowS HROW.out (by unfold maxLen; omega)
            clear HROW
            go_wp2
            go_ret2
            rw [HXS2.out]
            exact ⟨⟨_, rfl, HR2.out⟩, hb⟩

end Go.Proofs.YtpcmcopfdghdgaaGreatDoor

namespace Go.Proofs.YtpcmcopfdghdgaaGreatDoor
open Go.ChangeShapes Go.WideShapes Go.ChangeAt Go.RowKit

set_option maxRecDepth 100000 in
theorem door_met (os : Os) (args : Array Value) : laidMetH Tryz.prog lst ((World.doorLaid Tryz.prog 200 os).forCall (fun _ _ => 0) ⟨#[], args, []⟩).memory :=
  laidMetH_of_parts3 (fuel := 8) (laidMet_of_run' 8 (by kernel_rfl) (by kernel_rfl)) (by kernel_rfl) (by kernel_rfl)

set_option maxRecDepth 100000 in
theorem door_shaped (os : Os) : (World.doorLaid Tryz.prog 200 os).Shaped Tryz.prog := World.shaped_of_RefB (by kernel_rfl) (by kernel_rfl)

/-- The condition of a row that lists the sentinels. -/
abbrev Met (w : World) (_ : Array Value) : Prop := laidMetH Tryz.prog lst w

set_option maxRecDepth 100000 in
theorem law_liftedC (F : FuncId) (fn : Func) (s : ChangeSpec) (conds : List PathCond) (os : Os) (started : os.Started) (H : Type) (enc : TypeId × Value → H)
    (hno : Tryz.checked.prog.inits.idxOf? F = none) (hfn : Tryz.checked.prog.funcs[F]? = some fn) (hv : varsRowed Tryz.prog s.vars = true) (hvl : s.vars.length = 4) (hr : fn.resultTypes = #[4])
    (hts : ∀ t ∈ fn.params.toList, Tryz.prog.readableRec t = true ∧ t < Tryz.prog.types.size)
    (hspec : ∀ ds gs : List (DataW H), ds.length = fn.params.size → gs.length = 4 → s.fn H (ds ++ gs) = { results := [.lit (.bool true)], args := ds, vars := gs })
    (wit : ∃ (w : World) (tape : Tape) (i : Input), w.os = os ∧ (w.forCall tape i).Shaped Tryz.checked.prog ∧ i.vars = [] ∧ Input.okWide Tryz.checked.prog (w.forCall tape i) .any w.heap.size F i ∧
      ((s.pre enc Tryz.checked.prog fn conds false (w.forCall tape i).memory i.args ∧ Met (w.forCall tape i).memory i.args) ∧ sizedMet enc Tryz.checked.prog fn (OpenSpec.ofChange s) false (w.forCall tape i).memory i.args) ∧ ({} : Assume).holds Tryz.checked.prog (lone (Frame.enter Tryz.checked.prog F i.args .normal) [] (w.forCall tape i)))
    (walk : ∀ (W : World) (base : Nat) (args : Array Value) (ds : List (DataW H)) (p : List MemPlace),
      (∀ (j : Nat) t v, fn.params[j]? = some t → args[j]? = some v → Value.okWide Tryz.prog W .any base t v) →
      DataW.TrodAll enc Tryz.prog W 0 (fun _ => true) true fn.params.toList args.toList ds p → laidMetH Tryz.prog lst W →
      Calls Tryz.prog F args W fun e W' => e = .returned (.bool true) ∧ Below W.heap.size W W') :
    ReturnsInHanded {} Tryz.checked os F .any (fun w args => (s.pre enc Tryz.prog fn conds false w args ∧ laidMetH Tryz.prog lst w) ∧ sizedMet enc Tryz.prog fn (OpenSpec.ofChange s) false w args) (s.post enc Tryz.prog fn false true false false) := by
  refine returnsInHanded_of_change_and (C := Tryz.checked) (X := Met) (fun _ _ _ hh h => h.of_heap hh) law_own started hno hfn wit ?_
  intro W base args ds gs before hval0 hW hcnd _ hL _
  have hW' := hW
  obtain ⟨p, q, hA0, hV, rfl, hfz, hnd⟩ := hW
  have hgl : gs.length = 4 := by
    have key : ∀ (ns : List String) (gs : List (DataW H)) (ps : List MemPlace), DataW.TrodVars enc Tryz.checked.prog W (fun _ => true) ns gs ps → gs.length = ns.length := by
      intro ns
      induction ns with
      | nil => intro gs ps h; obtain ⟨rfl, _⟩ := trodVars_none h; rfl
      | cons n ns ih =>
        intro gs ps h
        cases gs with
        | nil => exact h.elim
        | cons d ds => obtain ⟨_, _, _, _, _, _, _, _, _, _, hs, _⟩ := h; simp [ih _ _ hs]
    rw [key _ _ _ hV, hvl]
  have hlen : ds.length = fn.params.size := by
    have key : ∀ (ts : List TypeId) (vs : List Value) (ds : List (DataW H)) (ps : List MemPlace), DataW.TrodAll enc Tryz.checked.prog W 0 (fun _ => true) true ts vs ds ps → ds.length = ts.length := by
      intro ts
      induction ts with
      | nil => intro vs ds ps h; obtain ⟨_, rfl, _⟩ := trodAll_nil h; rfl
      | cons t ts ih => intro vs ds ps h; obtain ⟨v, vs', d, ds', p, q, _, rfl, _, _, r0⟩ := trodAll_cons h; simp [ih _ _ _ r0]
    simpa using key _ _ _ _ hA0
  refine (walk W base args ds p hval0 hA0 hL).mono fun e W' ⟨he, hg⟩ => ?_
  subst he
  have hlt : ∀ x ∈ p, x.block < W.heap.size := fun x hx => hW'.lt x (by simp [hx])
  refine ⟨_, rfl, _, _, _, [], p, q, hW', ?_, ?_, ?_, hg.frame _, fun h => by cases h⟩
  · rw [hspec ds gs hlen hgl, hr]
    exact trodAll_mk1 (shut_bool Tryz.underlying4 _)
  · rw [hspec ds gs hlen hgl]
    exact trodAll_below law_laidOut hg _ _ _ _ hts hA0 hlt
  · rw [hspec ds gs hlen hgl]
    exact Below.trodVars law_laidOut hg hv hV

end Go.Proofs.YtpcmcopfdghdgaaGreatDoor

namespace Go.Proofs.YtpcmcopfdghdgaaGreatDoor
open Go.ChangeShapes Go.WideShapes Go.ChangeAt Go.RowKit Go.Deep Go.Joins

attribute [local go_sem] run_store_f

theorem own_kept {α : Type} {w w' : World} {b : Nat} {E : TypeId} {mk : α → Value} {v v' : Value} {xs : List α} (h : Own w b E mk v xs) (hk : KeptBut w w' v') (hn : ∀ j, Value.ownBlock v = some j → Value.ownBlock v' ≠ some j) : Own w' b E mk v xs := by
  obtain ⟨a, cap, h1, h2, h3, h4⟩ := h
  refine ⟨a, cap, h1, h2, h3, h4.imp id ?_⟩
  rintro ⟨g, cur, e, hg, hc, hx⟩
  exact ⟨g, cur, e, hg, hk g cur _ _ hc (hn g (by rw [h1, e]; rfl)), hx⟩

theorem own_rngU {α : Type} {w : World} {b : Nat} {E : TypeId} {mk : α → Value} {v : Value} {xs : List α} (h : Own w b E mk v xs) : ∀ j, Value.ownBlock v = some j → b ≤ j ∧ j < w.heap.size := by
  intro j hj
  obtain ⟨a, cap, rfl, h2, h3, h4⟩ := h
  rcases h4 with ⟨rfl, _⟩ | ⟨g, cur, rfl, hg, hc, hx⟩
  · cases hj
  · have : g = j := by simpa [Value.ownBlock] using hj
    subst this
    exact ⟨hg, row_lt hc⟩

theorem ownDk_kept {w w' : World} {b : Nat} {v v' : Value} {ws : List Dk} (h : OwnDk w b v ws) (hk : KeptBut w w' v') (hn : ∀ j, Value.ownBlock v = some j → Value.ownBlock v' ≠ some j) : OwnDk w' b v ws := by
  obtain ⟨g, cur, rfl, h2, h3, h4, h5, h6⟩ := h
  exact ⟨g, cur, rfl, h2, hk g cur _ _ h3 (hn g rfl), h4, h5, h6⟩

theorem ownDk_rng {w : World} {b : Nat} {v : Value} {ws : List Dk} (h : OwnDk w b v ws) : ∀ j, Value.ownBlock v = some j → b ≤ j ∧ j < w.heap.size := by
  intro j hj
  obtain ⟨g, cur, rfl, h2, h3, h4, h5, h6⟩ := h
  have : g = j := by simpa [Value.ownBlock] using hj
  subst this
  exact ⟨h2, row_lt h3⟩

theorem ownPn_kept {w w' : World} {b : Nat} {v v' : Value} {ws : List Pn} (h : OwnPn w b v ws) (hk : KeptBut w w' v') (hn : ∀ j, Value.ownBlock v = some j → Value.ownBlock v' ≠ some j) : OwnPn w' b v ws := by
  obtain ⟨g, cur, rfl, h2, h3, h4, h5, h6⟩ := h
  exact ⟨g, cur, rfl, h2, hk g cur _ _ h3 (hn g rfl), h4, h5, h6⟩

theorem ownPn_rng {w : World} {b : Nat} {v : Value} {ws : List Pn} (h : OwnPn w b v ws) : ∀ j, Value.ownBlock v = some j → b ≤ j ∧ j < w.heap.size := by
  intro j hj
  obtain ⟨g, cur, rfl, h2, h3, h4, h5, h6⟩ := h
  have : g = j := by simpa [Value.ownBlock] using hj
  subst this
  exact ⟨h2, row_lt h3⟩

theorem markDk_own (b : Nat) (v : Value) (ds : List Dk) (k0 : Int) (l0 : 0 ≤ k0) (l1 : k0 ≤ 40000000) (w : World) (h : OwnDk w b v ds) :
    Calls Tryz.prog 39 #[v, .int .i64 k0] w fun e w' => e = .returned (.int .i64 (k0 + 3 * (ds.length : Int))) ∧ Below b w w' ∧ KeptBut w w' v := by
  obtain ⟨g, cur, rfl, h2, h3, h4, h5, h6⟩ := h
  exact markDkS_any b g ds.length ds.length h5 k0 l0 l1 cur w h3 (by omega) h2

theorem markPn_own (b : Nat) (v : Value) (ps : List Pn) (k0 : Int) (l0 : 0 ≤ k0) (l1 : k0 ≤ 40000000) (w : World) (h : OwnPn w b v ps) :
    Calls Tryz.prog 40 #[v, .int .i64 k0] w fun e w' => e = .returned (.int .i64 (k0 + 3 * (ps.length : Int))) ∧ Below b w w' ∧ KeptBut w w' v := by
  obtain ⟨g, cur, rfl, h2, h3, h4, h5, h6⟩ := h
  exact markPnS_any b g ps.length ps.length h5 k0 l0 l1 cur w h3 (by omega) h2

set_option maxRecDepth 100000 in
set_option maxHeartbeats 4000000 in
theorem sSb_any (wd hg : Int) (iw : I8 wd) (ih : I8 hg) (sv dv pv : Value) (ws : List Wn) (hwf : ∀ x ∈ ws, WnWf x) (ds : List Dk) (hdf : ∀ x ∈ ds, DkWf x) (ps : List Pn) (c : Int) (xs : List Int) (hans : SbAns (ps.all fitP) (codeD (okRm wd hg ws) (true && ds.all (fitD wd hg)) ds.length) ps.length c xs (ds.map (sbD wd hg ws ps))) (w : World) (hws : WinsAt w sv ws) (hds : DksAt w dv ds) (hps : PnsAt w pv ps) :
    Calls Tryz.prog 29 #[.agg (roomC wd hg sv), dv, pv] w fun e w' => (∃ v, e = .returned (.tuple #[v, .int .i64 c]) ∧ Own w' w.heap.size 139 (Value.int .u16) v xs) ∧ Below w.heap.size w w' := by
  have HBI := Lib.hid (fun V h0 h1 h2 h3 => l03Bits_any wd hg iw ih sv dv pv ws hwf ds hdf ps c xs hans w.heap.size 70 (0, 0) V h0 h1 h2 h3)
  have HW := Lib.hid hws
  have HDK := Lib.hid hds
  have HPN := Lib.hid hps
  clear hws hds hps hans hdf hwf iw ih
  go_enter Tryz.func29, Tryz.ntmps29
  go_upto_region 1 with (fail)
  refine abs_world (fun W => W.heap[w.heap.size]? = some (.cells (roomC wd hg sv) 70 (0, 0)) ∧ Below w.heap.size w W) ⟨heap_alloc_new _ _, (Below.refl _ _).alloc (Nat.le_refl _) _⟩ ?_
  rintro W ⟨h0, hbz⟩
  have H0 := Lib.hid h0
  have HV := Lib.hid (wins_below HW.out hbz)
  have HD := Lib.hid (dks_below HDK.out hbz)
  have HP := Lib.hid (pns_below HPN.out hbz)
  clear h0
  have hlz := hbz.size
  go_wp2_with (go_at_call 77; refine (HBI.out _ H0.out HV.out HD.out HP.out).mono ?_; rintro e W1 ⟨⟨v1, rfl, hv1⟩, hb1⟩; have HO := Lib.hid (own_below hv1 (Below.refl _ _) hlz); clear hv1; replace hbz := hbz.trans (hb1.mono hbz.size); clear hb1)
  go_ret2
  exact ⟨⟨_, rfl, HO.out⟩, hbz⟩

set_option maxRecDepth 100000 in
set_option maxHeartbeats 16000000 in
theorem lawSb_core (wd hg : Int) (sv dv pv : Value) (ws : List Wn) (ds : List Dk) (ps : List Pn) (xs : List Int) (hxs : xs.length ≤ 1000) (v1 : Int) (e0 e1 e2 e3 : Addr)
    (hS : ∀ (s d p : Value) (W : World), WinsAt W s ws → DksAt W d ds → PnsAt W p ps → Calls Tryz.prog 29 #[.agg (roomC wd hg s), d, p] W fun e w' => (∃ v, e = .returned (.tuple #[v, .int .i64 v1]) ∧ Own w' W.heap.size 139 (Value.int .u16) v xs) ∧ Below W.heap.size W w')
    (hI : ∀ (s d p : Value) (W : World), WinsAt W s ws → DksAt W d ds → PnsAt W p ps → ErrsAt W e0 e1 e2 e3 → Calls Tryz.prog 33 #[.agg (roomC wd hg s), d, p] W fun e w' => (∃ v, e = .returned (.tuple #[v, .int .i64 v1]) ∧ Own w' W.heap.size 139 (Value.int .u16) v xs) ∧ Below W.heap.size W w')
    (w : World) (hws : WinsAt w sv ws) (hds : DksAt w dv ds) (hps : PnsAt w pv ps) (hE : ErrsAt w e0 e1 e2 e3) :
    Calls Tryz.prog 4 #[.agg (roomC wd hg sv), dv, pv] w fun e w' => e = .returned (.bool true) ∧ Below w.heap.size w w' := by
  have HA := Lib.hid hws
  have DA := Lib.hid hds
  have PA := Lib.hid hps
  have HX := Lib.hid hE
  have HA0 := Lib.hid hws
  have DA0 := Lib.hid hds
  have PA0 := Lib.hid hps
  have HX0 := Lib.hid hE
  have HS := Lib.hid hS
  have HI := Lib.hid hI
  have zc : (v1 != v1) = false := by simp
  obtain ⟨a0, cap0, esv, hl1, hl2, _⟩ := hws
  obtain ⟨d0, dc0, edv, hm1, hm2, _⟩ := hds
  obtain ⟨p0, pc0, epv, hk1, hk2, _⟩ := hps
  unfold maxLen at hl2 hm2 hk2
  have HZ1 := Lib.hid (fun w => szRoom_any wd hg a0 ws.length cap0 1048576 (by omega) (by decide) (by decide) w)
  rw [← esv] at HZ1
  have hr1 : leftI ws.length 1048576 < 0 ∨ (0 ≤ leftI ws.length 1048576 ∧ leftI ws.length 1048576 ≤ 1048576 ∧ ws.length ≤ 1048576) := by unfold leftI; split <;> omega
  generalize leftI (ws.length : Int) 1048576 = lf1 at *
  have HZ2 : Hid (0 ≤ lf1 → lf1 ≤ 1048576 → ∀ w, Calls Tryz.prog 27 #[dv, .int .i64 lf1] w fun e w' => e = .returned (.int .i64 (leftI ds.length lf1)) ∧ w = w') := Lib.hid (fun h0 h1 w => by rw [edv]; exact szDeskS_any d0 ds.length dc0 lf1 (by omega) h0 h1 w)
  have hr2 : 0 ≤ lf1 → lf1 ≤ 1048576 → leftI ds.length lf1 < 0 ∨ (0 ≤ leftI ds.length lf1 ∧ leftI ds.length lf1 ≤ 1048576 ∧ ds.length ≤ 1048576) := by intro h0 h1; unfold leftI; split <;> omega
  generalize leftI (ds.length : Int) lf1 = lf2 at *
  have HZ3 : Hid (0 ≤ lf2 → lf2 ≤ 1048576 → ∀ w, Calls Tryz.prog 28 #[pv, .int .i64 lf2] w fun e w' => e = .returned (.int .i64 (leftI ps.length lf2)) ∧ w = w') := Lib.hid (fun h0 h1 w => by rw [epv]; exact szPersonS_any p0 ps.length pc0 lf2 (by omega) h0 h1 w)
  have hr3 : 0 ≤ lf2 → lf2 ≤ 1048576 → leftI ps.length lf2 < 0 ∨ (0 ≤ leftI ps.length lf2 ∧ leftI ps.length lf2 ≤ 1048576 ∧ ps.length ≤ 1048576) := by intro h0 h1; unfold leftI; split <;> omega
  generalize leftI (ps.length : Int) lf2 = lf3 at *
  clear hl1 hl2 hm1 hm2 hk1 hk2 hE hS hI esv edv epv
  go_enter Tryz.func4, Tryz.ntmps4
  go_upto_region 1 with (fail)
  refine abs_world (fun W => W.heap[w.heap.size]? = some (.cells (roomC wd hg sv) 59 (0, 0)) ∧ Below w.heap.size w W) ⟨heap_alloc_new _ _, (Below.refl _ _).alloc (Nat.le_refl _) _⟩ ?_
  rintro W ⟨h0, hb⟩
  have H0 := Lib.hid h0
  replace HA := Lib.hid (wins_below HA.out hb)
  replace DA := Lib.hid (dks_below DA.out hb)
  replace PA := Lib.hid (pns_below PA.out hb)
  replace HX := Lib.hid (errs_below HX.out hb)
  clear h0
  rcases hr1 with hlf1 | ⟨ha1, hb1', hnw⟩
  · go_wp2_with (first | (refine wpList_load_part rfl 59 _ rfl w.heap.size 0 3 rfl 59 (roomC wd hg sv) (0, 0) _ H0.out Tryz.underlying59 rfl info_roomL (room_fits _ _ _) _ (room_all _ _ _) ?_) | (go_at_call 26; refine (HZ1.out _).mono ?_; rintro e W1 ⟨rfl, hb1⟩; replace H0 := Lib.hid (below_row hb1 H0.out); replace HA := Lib.hid (wins_below HA.out hb1); replace DA := Lib.hid (dks_below DA.out hb1); replace PA := Lib.hid (pns_below PA.out hb1); replace HX := Lib.hid (errs_below HX.out hb1); replace hb := hb.trans (hb1.mono hb.size); clear hb1))
    go_ret
    exact ⟨rfl, hb⟩
  replace HZ2 := Lib.hid (HZ2.out ha1 hb1')
  replace hr2 := hr2 ha1 hb1'
  have na1 : ¬ lf1 < 0 := by omega
  rcases hr2 with hlf2 | ⟨ha2, hb2', hnd⟩
  · go_wp2_with (first | (refine wpList_load_part rfl 59 _ rfl w.heap.size 0 3 rfl 59 (roomC wd hg sv) (0, 0) _ H0.out Tryz.underlying59 rfl info_roomL (room_fits _ _ _) _ (room_all _ _ _) ?_) | (go_at_call 26; refine (HZ1.out _).mono ?_; rintro e W1 ⟨rfl, hb1⟩; replace H0 := Lib.hid (below_row hb1 H0.out); replace HA := Lib.hid (wins_below HA.out hb1); replace DA := Lib.hid (dks_below DA.out hb1); replace PA := Lib.hid (pns_below PA.out hb1); replace HX := Lib.hid (errs_below HX.out hb1); replace hb := hb.trans (hb1.mono hb.size); clear hb1) | (go_at_call 27; refine (HZ2.out _).mono ?_; rintro e w1 ⟨rfl, rfl⟩))
    go_ret
    exact ⟨rfl, hb⟩
  replace HZ3 := Lib.hid (HZ3.out ha2 hb2')
  replace hr3 := hr3 ha2 hb2'
  have na2 : ¬ lf2 < 0 := by omega
  rcases hr3 with hlf3 | ⟨ha3, hb3', hnp⟩
  · go_wp2_with (first | (refine wpList_load_part rfl 59 _ rfl w.heap.size 0 3 rfl 59 (roomC wd hg sv) (0, 0) _ H0.out Tryz.underlying59 rfl info_roomL (room_fits _ _ _) _ (room_all _ _ _) ?_) | (go_at_call 26; refine (HZ1.out _).mono ?_; rintro e W1 ⟨rfl, hb1⟩; replace H0 := Lib.hid (below_row hb1 H0.out); replace HA := Lib.hid (wins_below HA.out hb1); replace DA := Lib.hid (dks_below DA.out hb1); replace PA := Lib.hid (pns_below PA.out hb1); replace HX := Lib.hid (errs_below HX.out hb1); replace hb := hb.trans (hb1.mono hb.size); clear hb1) | (go_at_call 27; refine (HZ2.out _).mono ?_; rintro e w1 ⟨rfl, rfl⟩) | (go_at_call 28; refine (HZ3.out _).mono ?_; rintro e w1 ⟨rfl, rfl⟩))
    go_ret
    exact ⟨rfl, hb⟩
  have na3 : ¬ lf3 < 0 := by omega
  go_upto_region 11 with (first | (refine wpList_load_part rfl 59 _ rfl w.heap.size 0 3 rfl 59 (roomC wd hg sv) (0, 0) _ H0.out Tryz.underlying59 rfl info_roomL (room_fits _ _ _) _ (room_all _ _ _) ?_) | (go_at_call 26; refine (HZ1.out _).mono ?_; rintro e W1 ⟨rfl, hb1⟩; replace H0 := Lib.hid (below_row hb1 H0.out); replace HA := Lib.hid (wins_below HA.out hb1); replace DA := Lib.hid (dks_below DA.out hb1); replace PA := Lib.hid (pns_below PA.out hb1); replace HX := Lib.hid (errs_below HX.out hb1); replace hb := hb.trans (hb1.mono hb.size); clear hb1) | (go_at_call 27; refine (HZ2.out _).mono ?_; rintro e w1 ⟨rfl, rfl⟩) | (go_at_call 28; refine (HZ3.out _).mono ?_; rintro e w1 ⟨rfl, rfl⟩))
  clear HZ1 HZ2 HZ3
  have hl1w := row_lt H0.out
  go_upto_region 12 with (first | (refine wpList_load_part rfl 59 _ rfl w.heap.size 0 3 rfl 59 (roomC wd hg sv) (0, 0) _ H0.out Tryz.underlying59 rfl info_roomL (room_fits _ _ _) _ (room_all _ _ _) ?_) | (go_at_call 30; refine (toRoom_any wd hg sv ws hnw _ HA.out).mono ?_; rintro e W2a ⟨⟨v3, rfl, hv⟩, hb1⟩; have O3 := Lib.hid hv; clear hv; have s2a := hb1.size; replace H0 := Lib.hid (below_row hb1 H0.out); replace HA := Lib.hid (wins_below HA.out hb1); replace DA := Lib.hid (dks_below DA.out hb1); replace PA := Lib.hid (pns_below PA.out hb1); replace HX := Lib.hid (errs_below HX.out hb1); replace hb := hb.trans (hb1.mono hb.size); clear hb1) | (go_at_call 31; refine (toDeskS_any dv ds hnd _ DA.out).mono ?_; rintro e W2b ⟨⟨d3, rfl, hv⟩, hb1⟩; have D3 := Lib.hid hv; clear hv; have s2b := hb1.size; replace H0 := Lib.hid (below_row hb1 H0.out); replace HA := Lib.hid (wins_below HA.out hb1); replace DA := Lib.hid (dks_below DA.out hb1); replace PA := Lib.hid (pns_below PA.out hb1); replace HX := Lib.hid (errs_below HX.out hb1); replace O3 := Lib.hid (ownW_below O3.out hb1 (Nat.le_refl _)); replace hb := hb.trans (hb1.mono hb.size); clear hb1) | (go_at_call 32; refine (toPersonS_any pv ps hnp _ PA.out).mono ?_; rintro e W2c ⟨⟨p3, rfl, hv⟩, hb1⟩; have P3 := Lib.hid hv; clear hv; have s2c := hb1.size; replace H0 := Lib.hid (below_row hb1 H0.out); replace HA := Lib.hid (wins_below HA.out hb1); replace DA := Lib.hid (dks_below DA.out hb1); replace PA := Lib.hid (pns_below PA.out hb1); replace HX := Lib.hid (errs_below HX.out hb1); replace O3 := Lib.hid (ownW_below O3.out hb1 (Nat.le_refl _)); replace D3 := Lib.hid (ownDk_below D3.out hb1 (Nat.le_refl _)); replace hb := hb.trans (hb1.mono hb.size); clear hb1) | (go_at_call 29; refine (HS.out _ _ _ _ (ownW_at O3.out) (ownDk_at D3.out) (ownPn_at P3.out)).mono ?_; rintro e W3 ⟨⟨v4, rfl, hv⟩, hb1⟩; have Q4 := Lib.hid hv; clear hv; have s3 := hb1.size; replace H0 := Lib.hid (below_row hb1 H0.out); replace HA := Lib.hid (wins_below HA.out hb1); replace DA := Lib.hid (dks_below DA.out hb1); replace PA := Lib.hid (pns_below PA.out hb1); replace HX := Lib.hid (errs_below HX.out hb1); replace hb := hb.trans (hb1.mono hb.size); clear hb1))
  have N4 : Hid (∀ j, Value.ownBlock v4 = some j → w.heap.size < j ∧ j < W3.heap.size) := Lib.hid (fun j hj => by have := own_rngU Q4.out j hj; omega)
  clear O3 D3 P3 HS
  go_upto_region 13 with (first | (refine wpList_load_part rfl 59 _ rfl w.heap.size 0 3 rfl 59 (roomC wd hg sv) (0, 0) _ H0.out Tryz.underlying59 rfl info_roomL (room_fits _ _ _) _ (room_all _ _ _) ?_) | (go_at_call 30; refine (toRoom_any wd hg sv ws hnw _ HA.out).mono ?_; rintro e W5 ⟨⟨v6, rfl, hv⟩, hb1⟩; have O6 := Lib.hid hv; clear hv; have s5 := hb1.size; replace H0 := Lib.hid (below_row hb1 H0.out); replace HA := Lib.hid (wins_below HA.out hb1); replace DA := Lib.hid (dks_below DA.out hb1); replace PA := Lib.hid (pns_below PA.out hb1); replace HX := Lib.hid (errs_below HX.out hb1); replace Q4 := Lib.hid (own_below Q4.out hb1 (Nat.le_refl _)); replace hb := hb.trans (hb1.mono hb.size); clear hb1) | (refine wpList_store_part rfl 70 _ _ rfl _ 0 (roomC wd hg v6) rfl rfl 70 _ (heap_alloc_new _ _) info_room (Nat.le_refl _) (room_one _ _ O6.out) ?_; rw [laid_allr _ _ (by rfl)]))
  have N6 : Hid (∀ j, Value.ownBlock v6 = some j → W3.heap.size ≤ j ∧ j < W5.heap.size) := Lib.hid (fun j hj => ownQ_rng (ownQ_ofW O6.out) j hj)
  refine abs_world (fun X => X.heap[w.heap.size]? = some (.cells (roomC wd hg sv) 59 (0, 0)) ∧ WinsAt X sv ws ∧ DksAt X dv ds ∧ PnsAt X pv ps ∧ ErrsAt X e0 e1 e2 e3 ∧ Own X W2c.heap.size 139 (Value.int .u16) v4 xs ∧ X.heap[W5.heap.size]? = some (.cells (roomC wd hg v6) 70 (0, 0)) ∧ OwnQ X W3.heap.size v6 ws ∧ Below w.heap.size w X) ⟨below_row (sbZ _ _ _) H0.out, wins_below HA.out (sbZ _ _ _), dks_below DA.out (sbZ _ _ _), pns_below PA.out (sbZ _ _ _), errs_below HX.out (sbZ _ _ _), own_below Q4.out (sbZ _ _ _) (Nat.le_refl _), setRow_heap _ _ _ _ _ _ (heap_alloc_new _ _), ownQ_below (ownQ_ofW O6.out) (sbZ _ _ _), hb.trans ((sbZ _ _ _).mono hb.size)⟩ ?_
  clear H0 HA DA PA HX Q4 O6 hb
  generalize W5.heap.size = b6 at *
  rintro Y2 ⟨h0, ha, da, pa, hx, q4, h6, q6, hb⟩
  have H0 := Lib.hid h0
  have HA := Lib.hid ha
  have DA := Lib.hid da
  have PA := Lib.hid pa
  have HX := Lib.hid hx
  have Q4 := Lib.hid q4
  have R6 := Lib.hid h6
  have Q6 := Lib.hid q6
  have hlb6 := row_lt h6
  clear h0 ha da pa hx q4 h6 q6
  go_upto_region 14 with (go_at_call 31; refine (toDeskS_any dv ds hnd _ DA.out).mono ?_; rintro e W7 ⟨⟨v7, rfl, hv⟩, hb1⟩; have D7 := Lib.hid hv; clear hv; have s7 := hb1.size; replace H0 := Lib.hid (below_row hb1 H0.out); replace HA := Lib.hid (wins_below HA.out hb1); replace DA := Lib.hid (dks_below DA.out hb1); replace PA := Lib.hid (pns_below PA.out hb1); replace HX := Lib.hid (errs_below HX.out hb1); replace Q4 := Lib.hid (own_below Q4.out hb1 (Nat.le_refl _)); replace R6 := Lib.hid (below_row hb1 R6.out); replace Q6 := Lib.hid (ownQ_below Q6.out hb1); replace hb := hb.trans (hb1.mono hb.size); clear hb1)
  have N7 : Hid (∀ j, Value.ownBlock v7 = some j → Y2.heap.size ≤ j ∧ j < W7.heap.size) := Lib.hid (fun j hj => ownDk_rng D7.out j hj)
  go_upto_region 15 with (go_at_call 32; refine (toPersonS_any pv ps hnp _ PA.out).mono ?_; rintro e W8 ⟨⟨v8, rfl, hv⟩, hb1⟩; have P8 := Lib.hid hv; clear hv; have s8 := hb1.size; replace H0 := Lib.hid (below_row hb1 H0.out); replace HA := Lib.hid (wins_below HA.out hb1); replace DA := Lib.hid (dks_below DA.out hb1); replace PA := Lib.hid (pns_below PA.out hb1); replace HX := Lib.hid (errs_below HX.out hb1); replace Q4 := Lib.hid (own_below Q4.out hb1 (Nat.le_refl _)); replace R6 := Lib.hid (below_row hb1 R6.out); replace Q6 := Lib.hid (ownQ_below Q6.out hb1); replace D7 := Lib.hid (ownDk_below D7.out hb1 (Nat.le_refl _)); replace hb := hb.trans (hb1.mono hb.size); clear hb1)
  have N8 : Hid (∀ j, Value.ownBlock v8 = some j → W7.heap.size ≤ j ∧ j < W8.heap.size) := Lib.hid (fun j hj => ownPn_rng P8.out j hj)
  go_upto_region 16 with (first | (refine wpList_load_part rfl 70 _ rfl b6 0 3 rfl 70 (roomC wd hg v6) (0, 0) _ R6.out Tryz.underlying70 rfl info_room (room_fits _ _ _) _ (room_all _ _ _) ?_) | (go_at_call 33; refine (HI.out _ _ _ _ (ownQ_at Q6.out) (ownDk_at D7.out) (ownPn_at P8.out) HX.out).mono ?_; rintro e W9 ⟨⟨v9, rfl, hv⟩, hb1⟩; have Q9 := Lib.hid hv; clear hv; replace H0 := Lib.hid (below_row hb1 H0.out); replace HA := Lib.hid (wins_below HA.out hb1); replace DA := Lib.hid (dks_below DA.out hb1); replace PA := Lib.hid (pns_below PA.out hb1); replace HX := Lib.hid (errs_below HX.out hb1); replace Q4 := Lib.hid (own_below Q4.out hb1 (Nat.le_refl _)); replace R6 := Lib.hid (below_row hb1 R6.out); replace Q6 := Lib.hid (ownQ_below Q6.out hb1); replace D7 := Lib.hid (ownDk_below D7.out hb1 (Nat.le_refl _)); replace P8 := Lib.hid (ownPn_below P8.out hb1 (Nat.le_refl _)); replace hb := hb.trans (hb1.mono hb.size); clear hb1))
  have N9 : Hid (∀ j, Value.ownBlock v9 = some j → W8.heap.size ≤ j) := Lib.hid (fun j hj => (own_rngU Q9.out j hj).1)
  go_upto_region 18 with (go_at_call 34; refine (eqU_same xs v9 v4 _ _ _ Q9.out Q4.out).mono ?_; rintro e W10 ⟨rfl, hb1⟩; replace H0 := Lib.hid (below_row hb1 H0.out); replace HA := Lib.hid (wins_below HA.out hb1); replace DA := Lib.hid (dks_below DA.out hb1); replace PA := Lib.hid (pns_below PA.out hb1); replace HX := Lib.hid (errs_below HX.out hb1); replace Q4 := Lib.hid (own_below Q4.out hb1 (Nat.le_refl _)); replace R6 := Lib.hid (below_row hb1 R6.out); replace Q6 := Lib.hid (ownQ_below Q6.out hb1); replace D7 := Lib.hid (ownDk_below D7.out hb1 (Nat.le_refl _)); replace P8 := Lib.hid (ownPn_below P8.out hb1 (Nat.le_refl _)); replace Q9 := Lib.hid (own_below Q9.out hb1 (Nat.le_refl _)); replace hb := hb.trans (hb1.mono hb.size); clear hb1)
  refine wp_region_held_drew (S := (fun V => Below W10.heap.size W10 V)) (by kernel_rfl) ((Below.refl _ _).drew) (fun hHeld => ?_)
  refine take_op (i := 0) (d := 67) (v := .agg (roomC wd hg v6)) rfl rfl (by kernel_rfl) (by kernel_rfl) (by kernel_rfl) (fun _ _ _ h => h) (yields_row (by rfl) 70 (.tmp 10) (by rfl) b6 0 3 (by rfl) 70 (roomC wd hg v6) (0, 0) _ (fun _ h => below_row h R6.out) Tryz.underlying70 rfl info_room (room_fits _ _ _) (roomC wd hg v6) (room_all _ _ _)) hHeld ?_
  simp only [List.setIfInBounds_toArray, List.set_cons_zero, List.set_cons_succ]
  refine take_op (i := 1) (d := 68) (v := .agg (roomC wd hg sv)) rfl rfl (by kernel_rfl) (by kernel_rfl) (by kernel_rfl) (fun _ _ _ h => h) (yields_row (by rfl) 59 (.tmp 3) (by rfl) w.heap.size 0 3 (by rfl) 59 (roomC wd hg sv) (0, 0) _ (fun _ h => below_row h H0.out) Tryz.underlying59 rfl info_roomL (room_fits _ _ _) (roomC wd hg sv) (room_all _ _ _)) hHeld ?_
  simp only [List.setIfInBounds_toArray, List.set_cons_zero, List.set_cons_succ]
  refine wpAnyH_ready (rs := [2]) (by kernel_rfl) (by simp) ?_
  refine AllReadyH.cons rfl (fun K hK => ?_) AllReadyH.nil
  go_simp
  refine (toRoom_any wd hg sv ws hnw _ (wins_below HA.out hHeld)).mono ?_
  rintro e Wa ⟨⟨v9a, rfl, hv9⟩, hb1⟩
  have HV9 := Lib.hid (ownW_at hv9)
  clear hv9
  refine hK.out _ _ (hHeld.trans (hb1.mono hHeld.size)) (fun hHeld2 => ?_)
  clear hK K
  replace hHeld := hHeld2
  clear hHeld2
  clear hb1
  refine wpAnyH_ready (rs := [3]) (by kernel_rfl) (by simp) ?_
  refine AllReadyH.cons rfl (fun K hK => ?_) AllReadyH.nil
  go_simp
  refine (eqRoom_any wd hg v6 v9a ws _ (ownQ_at (ownQ_below Q6.out hHeld)) HV9.out).mono ?_
  rintro e Wb ⟨rfl, hb1⟩
  refine hK.out _ _ (hHeld.trans (hb1.mono hHeld.size)) (fun hHeld2 => ?_)
  clear hK K
  replace hHeld := hHeld2
  clear hHeld2
  clear hb1 HV9
  refine take_op (i := 4) (d := 71) (v := ?_) rfl rfl (by kernel_rfl) (by kernel_rfl) (by kernel_rfl) (fun _ _ _ h => h) (Or.inl ⟨by rfl, ?hy4y68⟩) hHeld ?rest4y68
  case hy4y68 =>
    intro w' hS'
    go_simp
    try with_reducible rfl
  simp only [List.setIfInBounds_toArray, List.set_cons_zero, List.set_cons_succ]
  refine wpAnyH_done (by kernel_rfl) ?_ _
  replace H0 := Lib.hid (below_row hHeld H0.out)
  replace HA := Lib.hid (wins_below HA.out hHeld)
  replace DA := Lib.hid (dks_below DA.out hHeld)
  replace PA := Lib.hid (pns_below PA.out hHeld)
  replace HX := Lib.hid (errs_below HX.out hHeld)
  replace Q4 := Lib.hid (own_below Q4.out hHeld (Nat.le_refl _))
  replace R6 := Lib.hid (below_row hHeld R6.out)
  replace Q6 := Lib.hid (ownQ_below Q6.out hHeld)
  replace D7 := Lib.hid (ownDk_below D7.out hHeld (Nat.le_refl _))
  replace P8 := Lib.hid (ownPn_below P8.out hHeld (Nat.le_refl _))
  replace Q9 := Lib.hid (own_below Q9.out hHeld (Nat.le_refl _))
  replace hb := hb.trans (hHeld.mono hb.size)
  clear hHeld
  go_upto_region 24 with (first | (go_at_call 31; refine (toDeskS_any dv ds hnd _ DA.out).mono ?_; rintro e W11a ⟨⟨d11, rfl, hv⟩, hb1⟩; have D11 := Lib.hid hv; clear hv; skip; replace H0 := Lib.hid (below_row hb1 H0.out); replace HA := Lib.hid (wins_below HA.out hb1); replace DA := Lib.hid (dks_below DA.out hb1); replace PA := Lib.hid (pns_below PA.out hb1); replace HX := Lib.hid (errs_below HX.out hb1); replace Q4 := Lib.hid (own_below Q4.out hb1 (Nat.le_refl _)); replace R6 := Lib.hid (below_row hb1 R6.out); replace Q6 := Lib.hid (ownQ_below Q6.out hb1); replace D7 := Lib.hid (ownDk_below D7.out hb1 (Nat.le_refl _)); replace P8 := Lib.hid (ownPn_below P8.out hb1 (Nat.le_refl _)); replace Q9 := Lib.hid (own_below Q9.out hb1 (Nat.le_refl _)); replace hb := hb.trans (hb1.mono hb.size); clear hb1) | (go_at_call 36; refine (eqDeskS_any v7 d11 ds _ (ownDk_at D7.out) (ownDk_at D11.out)).mono ?_; rintro e W11b ⟨rfl, hb1⟩; replace H0 := Lib.hid (below_row hb1 H0.out); replace HA := Lib.hid (wins_below HA.out hb1); replace DA := Lib.hid (dks_below DA.out hb1); replace PA := Lib.hid (pns_below PA.out hb1); replace HX := Lib.hid (errs_below HX.out hb1); replace Q4 := Lib.hid (own_below Q4.out hb1 (Nat.le_refl _)); replace R6 := Lib.hid (below_row hb1 R6.out); replace Q6 := Lib.hid (ownQ_below Q6.out hb1); replace D7 := Lib.hid (ownDk_below D7.out hb1 (Nat.le_refl _)); replace P8 := Lib.hid (ownPn_below P8.out hb1 (Nat.le_refl _)); replace Q9 := Lib.hid (own_below Q9.out hb1 (Nat.le_refl _)); replace hb := hb.trans (hb1.mono hb.size); clear hb1) | (go_at_call 32; refine (toPersonS_any pv ps hnp _ PA.out).mono ?_; rintro e W11c ⟨⟨p11, rfl, hv⟩, hb1⟩; have P11 := Lib.hid hv; clear hv; skip; replace H0 := Lib.hid (below_row hb1 H0.out); replace HA := Lib.hid (wins_below HA.out hb1); replace DA := Lib.hid (dks_below DA.out hb1); replace PA := Lib.hid (pns_below PA.out hb1); replace HX := Lib.hid (errs_below HX.out hb1); replace Q4 := Lib.hid (own_below Q4.out hb1 (Nat.le_refl _)); replace R6 := Lib.hid (below_row hb1 R6.out); replace Q6 := Lib.hid (ownQ_below Q6.out hb1); replace D7 := Lib.hid (ownDk_below D7.out hb1 (Nat.le_refl _)); replace P8 := Lib.hid (ownPn_below P8.out hb1 (Nat.le_refl _)); replace Q9 := Lib.hid (own_below Q9.out hb1 (Nat.le_refl _)); replace hb := hb.trans (hb1.mono hb.size); clear hb1) | (go_at_call 37; refine (eqPersonS_any v8 p11 ps _ (ownPn_at P8.out) (ownPn_at P11.out)).mono ?_; rintro e W11d ⟨rfl, hb1⟩; replace H0 := Lib.hid (below_row hb1 H0.out); replace HA := Lib.hid (wins_below HA.out hb1); replace DA := Lib.hid (dks_below DA.out hb1); replace PA := Lib.hid (pns_below PA.out hb1); replace HX := Lib.hid (errs_below HX.out hb1); replace Q4 := Lib.hid (own_below Q4.out hb1 (Nat.le_refl _)); replace R6 := Lib.hid (below_row hb1 R6.out); replace Q6 := Lib.hid (ownQ_below Q6.out hb1); replace D7 := Lib.hid (ownDk_below D7.out hb1 (Nat.le_refl _)); replace P8 := Lib.hid (ownPn_below P8.out hb1 (Nat.le_refl _)); replace Q9 := Lib.hid (own_below Q9.out hb1 (Nat.le_refl _)); replace hb := hb.trans (hb1.mono hb.size); clear hb1))
  obtain ⟨k6, hk6⟩ : ∃ k6 : Int, k6 = 1 + 3 * (ws.length : Int) := ⟨_, rfl⟩
  obtain ⟨k7, hk7⟩ : ∃ k7 : Int, k7 = k6 + 3 * (ds.length : Int) := ⟨_, rfl⟩
  obtain ⟨k8, hk8⟩ : ∃ k8 : Int, k8 = k7 + 3 * (ps.length : Int) := ⟨_, rfl⟩
  have hz8 : ¬ k8 < 0 := by omega
  have hz8d : decide (k8 < 0) = false := decide_eq_false hz8
  have HMK6 : Hid (∀ (lo : Nat) (V : World), OwnQ V lo v6 ws → Calls Tryz.prog 38 #[.agg (roomC wd hg v6), .int .i64 1] V fun e w' => e = .returned (.int .i64 k6) ∧ MarkedQ w' v6 ws.length ∧ KeptBut V w' v6 ∧ (lo ≤ V.heap.size → Below lo V w')) := Lib.hid (by rw [hk6]; exact fun lo V h => markRoomQ wd hg lo v6 ws hnw V h)
  have HMK7 : Hid (∀ (lo : Nat) (V : World), OwnDk V lo v7 ds → Calls Tryz.prog 39 #[v7, .int .i64 k6] V fun e w' => e = .returned (.int .i64 k7) ∧ Below lo V w' ∧ KeptBut V w' v7) := Lib.hid (by rw [hk7]; exact fun lo V h => markDk_own lo v7 ds k6 (by omega) (by omega) V h)
  have HMK8 : Hid (∀ (lo : Nat) (V : World), OwnPn V lo v8 ps → Calls Tryz.prog 40 #[v8, .int .i64 k7] V fun e w' => e = .returned (.int .i64 k8) ∧ Below lo V w' ∧ KeptBut V w' v8) := Lib.hid (by rw [hk8]; exact fun lo V h => markPn_own lo v8 ps k7 (by omega) (by omega) V h)
  clear hk6 hk7 hk8
  go_upto_region 26 with (first | (refine wpList_load_part rfl 70 _ rfl b6 0 3 rfl 70 (roomC wd hg v6) (0, 0) _ R6.out Tryz.underlying70 rfl info_room (room_fits _ _ _) _ (room_all _ _ _) ?_) | (go_at_call 38; refine (HMK6.out _ _ Q6.out).mono ?_; rintro e W12 ⟨rfl, -, hkb, hbq⟩; replace H0 := Lib.hid (hkb _ _ _ _ H0.out (fun h => by have := N6.out _ h; omega)); replace Q4 := Lib.hid (own_kept Q4.out hkb (fun j hj h => by have a := N4.out j hj; have b := N6.out j h; omega)); replace D7 := Lib.hid (ownDk_kept D7.out hkb (fun j hj h => by have a := N7.out j hj; have b := N6.out j h; omega)); replace P8 := Lib.hid (ownPn_kept P8.out hkb (fun j hj h => by have a := N8.out j hj; have b := N6.out j h; omega)); replace Q9 := Lib.hid (own_kept Q9.out hkb (fun j hj h => by have a := N9.out j hj; have b := N6.out j h; omega)); replace hb := hb.trans ((hbq (by have := row_lt R6.out; omega)).mono (by omega)); clear hbq R6 Q6; replace HA := Lib.hid (wins_below HA0.out hb); replace DA := Lib.hid (dks_below DA0.out hb); replace PA := Lib.hid (pns_below PA0.out hb); replace HX := Lib.hid (errs_below HX0.out hb); clear hkb))
  go_upto_region 27 with (go_at_call 39; refine (HMK7.out _ _ D7.out).mono ?_; rintro e W13 ⟨rfl, hbq, hkb⟩; replace H0 := Lib.hid (hkb _ _ _ _ H0.out (fun h => by have := N7.out _ h; omega)); replace Q4 := Lib.hid (own_kept Q4.out hkb (fun j hj h => by have a := N4.out j hj; have b := N7.out j h; omega)); replace P8 := Lib.hid (ownPn_kept P8.out hkb (fun j hj h => by have a := N8.out j hj; have b := N7.out j h; omega)); replace Q9 := Lib.hid (own_kept Q9.out hkb (fun j hj h => by have a := N9.out j hj; have b := N7.out j h; omega)); replace hb := hb.trans (hbq.mono (by omega)); clear hbq D7; replace HA := Lib.hid (wins_below HA0.out hb); replace DA := Lib.hid (dks_below DA0.out hb); replace PA := Lib.hid (pns_below PA0.out hb); replace HX := Lib.hid (errs_below HX0.out hb); clear hkb)
  go_upto_region 28 with (go_at_call 40; refine (HMK8.out _ _ P8.out).mono ?_; rintro e W14 ⟨rfl, hbq, hkb⟩; replace H0 := Lib.hid (hkb _ _ _ _ H0.out (fun h => by have := N8.out _ h; omega)); replace Q4 := Lib.hid (own_kept Q4.out hkb (fun j hj h => by have a := N4.out j hj; have b := N8.out j h; omega)); replace Q9 := Lib.hid (own_kept Q9.out hkb (fun j hj h => by have a := N9.out j hj; have b := N8.out j h; omega)); replace hb := hb.trans (hbq.mono (by omega)); clear hbq P8; replace HA := Lib.hid (wins_below HA0.out hb); replace DA := Lib.hid (dks_below DA0.out hb); replace PA := Lib.hid (pns_below PA0.out hb); replace HX := Lib.hid (errs_below HX0.out hb); clear hkb)
  clear HMK6 HMK7 HMK8
  go_upto_region 31 with (go_at_call 34; refine (eqU_same xs v9 v4 _ _ _ Q9.out Q4.out).mono ?_; rintro e W10 ⟨rfl, hb1⟩; replace H0 := Lib.hid (below_row hb1 H0.out); replace HA := Lib.hid (wins_below HA.out hb1); replace DA := Lib.hid (dks_below DA.out hb1); replace PA := Lib.hid (pns_below PA.out hb1); replace HX := Lib.hid (errs_below HX.out hb1); replace Q4 := Lib.hid (own_below Q4.out hb1 (Nat.le_refl _)); replace Q9 := Lib.hid (own_below Q9.out hb1 (Nat.le_refl _)); replace hb := hb.trans (hb1.mono hb.size); clear hb1)
  have HMK9 := Lib.hid (fun V h => markU_any 1 xs v9 W8.heap.size V (by decide) (by decide) (by omega) h)
  have hzm : ¬ (1 + (xs.length : Int) < 0) := by omega
  have hzmd : decide (1 + (xs.length : Int) < 0) = false := decide_eq_false hzm
  have hzme : (1 + (xs.length : Int) != 1 + (xs.length : Int)) = false := by simp
  go_upto_region 33 with (go_at_call 41; refine (HMK9.out _ Q9.out).mono ?_; rintro e W15 hmk; have hkb := keptBut_ofU hmk; obtain ⟨rfl, hm9, hbq, -⟩ := hmk; replace H0 := Lib.hid (hkb _ _ _ _ H0.out (fun h => by have := N9.out _ h; omega)); replace Q4 := Lib.hid (own_kept Q4.out hkb (fun j hj h => by have a := N4.out j hj; have b := N9.out j h; omega)); replace hb := hb.trans (hbq.mono (by omega)); clear hbq Q9; replace HA := Lib.hid (wins_below HA0.out hb); replace DA := Lib.hid (dks_below DA0.out hb); replace PA := Lib.hid (pns_below PA0.out hb); replace HX := Lib.hid (errs_below HX0.out hb); clear hkb; have M9 := Lib.hid hm9; clear hm9)
  clear HMK9
  go_upto_region 38 with (go_at_call 42; refine (heldU_same 1 xs.length v9 _ _ (by decide) (by decide) hxs M9.out).mono ?_; rintro e W11 ⟨rfl, hb1⟩; replace H0 := Lib.hid (below_row hb1 H0.out); replace HA := Lib.hid (wins_below HA.out hb1); replace DA := Lib.hid (dks_below DA.out hb1); replace PA := Lib.hid (pns_below PA.out hb1); replace HX := Lib.hid (errs_below HX.out hb1); replace Q4 := Lib.hid (own_below Q4.out hb1 (Nat.le_refl _)); replace M9 := Lib.hid (own_below M9.out hb1 (Nat.le_refl _)); replace hb := hb.trans (hb1.mono hb.size); clear hb1)
  go_upto_region 39 with (first | (refine wpList_load_part rfl 59 _ rfl w.heap.size 0 3 rfl 59 (roomC wd hg sv) (0, 0) _ H0.out Tryz.underlying59 rfl info_roomL (room_fits _ _ _) _ (room_all _ _ _) ?_) | (go_at_call 30; refine (toRoom_any wd hg sv ws hnw _ HA.out).mono ?_; rintro e W16a ⟨⟨v16, rfl, hv⟩, hb1⟩; have O16 := Lib.hid hv; clear hv; skip; replace H0 := Lib.hid (below_row hb1 H0.out); replace HA := Lib.hid (wins_below HA.out hb1); replace DA := Lib.hid (dks_below DA.out hb1); replace PA := Lib.hid (pns_below PA.out hb1); replace HX := Lib.hid (errs_below HX.out hb1); replace Q4 := Lib.hid (own_below Q4.out hb1 (Nat.le_refl _)); replace M9 := Lib.hid (own_below M9.out hb1 (Nat.le_refl _)); replace hb := hb.trans (hb1.mono hb.size); clear hb1) | (go_at_call 31; refine (toDeskS_any dv ds hnd _ DA.out).mono ?_; rintro e W16b ⟨⟨d16, rfl, hv⟩, hb1⟩; have D16 := Lib.hid hv; clear hv; replace O16 := Lib.hid (ownW_below O16.out hb1 (Nat.le_refl _)); replace H0 := Lib.hid (below_row hb1 H0.out); replace HA := Lib.hid (wins_below HA.out hb1); replace DA := Lib.hid (dks_below DA.out hb1); replace PA := Lib.hid (pns_below PA.out hb1); replace HX := Lib.hid (errs_below HX.out hb1); replace Q4 := Lib.hid (own_below Q4.out hb1 (Nat.le_refl _)); replace M9 := Lib.hid (own_below M9.out hb1 (Nat.le_refl _)); replace hb := hb.trans (hb1.mono hb.size); clear hb1) | (go_at_call 32; refine (toPersonS_any pv ps hnp _ PA.out).mono ?_; rintro e W16c ⟨⟨p16, rfl, hv⟩, hb1⟩; have P16 := Lib.hid hv; clear hv; replace O16 := Lib.hid (ownW_below O16.out hb1 (Nat.le_refl _)); replace D16 := Lib.hid (ownDk_below D16.out hb1 (Nat.le_refl _)); replace H0 := Lib.hid (below_row hb1 H0.out); replace HA := Lib.hid (wins_below HA.out hb1); replace DA := Lib.hid (dks_below DA.out hb1); replace PA := Lib.hid (pns_below PA.out hb1); replace HX := Lib.hid (errs_below HX.out hb1); replace Q4 := Lib.hid (own_below Q4.out hb1 (Nat.le_refl _)); replace M9 := Lib.hid (own_below M9.out hb1 (Nat.le_refl _)); replace hb := hb.trans (hb1.mono hb.size); clear hb1) | (go_at_call 33; refine (HI.out _ _ _ _ (ownW_at O16.out) (ownDk_at D16.out) (ownPn_at P16.out) HX.out).mono ?_; rintro e W17 ⟨⟨v12, rfl, hv⟩, hb1⟩; have Q12 := Lib.hid hv; clear hv; replace H0 := Lib.hid (below_row hb1 H0.out); replace HA := Lib.hid (wins_below HA.out hb1); replace DA := Lib.hid (dks_below DA.out hb1); replace PA := Lib.hid (pns_below PA.out hb1); replace HX := Lib.hid (errs_below HX.out hb1); replace Q4 := Lib.hid (own_below Q4.out hb1 (Nat.le_refl _)); replace M9 := Lib.hid (own_below M9.out hb1 (Nat.le_refl _)); replace hb := hb.trans (hb1.mono hb.size); clear hb1))
  clear O16 D16 P16 HI
  go_wp2_with (first | (go_at_call 34; refine (eqU_same xs v12 v4 _ _ _ Q12.out Q4.out).mono ?_; rintro e W10 ⟨rfl, hb1⟩; replace H0 := Lib.hid (below_row hb1 H0.out); replace HA := Lib.hid (wins_below HA.out hb1); replace DA := Lib.hid (dks_below DA.out hb1); replace PA := Lib.hid (pns_below PA.out hb1); replace HX := Lib.hid (errs_below HX.out hb1); replace Q4 := Lib.hid (own_below Q4.out hb1 (Nat.le_refl _)); replace M9 := Lib.hid (own_below M9.out hb1 (Nat.le_refl _)); replace Q12 := Lib.hid (own_below Q12.out hb1 (Nat.le_refl _)); replace hb := hb.trans (hb1.mono hb.size); clear hb1) | (go_at_call 42; refine (heldU_same 1 xs.length v9 _ _ (by decide) (by decide) hxs M9.out).mono ?_; rintro e W11 ⟨rfl, hb1⟩; replace H0 := Lib.hid (below_row hb1 H0.out); replace HA := Lib.hid (wins_below HA.out hb1); replace DA := Lib.hid (dks_below DA.out hb1); replace PA := Lib.hid (pns_below PA.out hb1); replace HX := Lib.hid (errs_below HX.out hb1); replace Q4 := Lib.hid (own_below Q4.out hb1 (Nat.le_refl _)); replace M9 := Lib.hid (own_below M9.out hb1 (Nat.le_refl _)); replace hb := hb.trans (hb1.mono hb.size); clear hb1))
  go_ret
  exact ⟨rfl, hb⟩

end Go.Proofs.YtpcmcopfdghdgaaGreatDoor

namespace Go.Proofs.YtpcmcopfdghdgaaGreatDoor
open Go.RowKit Go.ChangeShapes Go.WideShapes

set_option maxRecDepth 100000 in
theorem open_desks {H : Type} {enc : TypeId × Value → H} {W : World} {b0 base : Nat} {spare : Nat → Bool} {held : Bool} {r : Reach} {v : Value} {d : DataW H} {p : List MemPlace}
    (hv : Value.okWide Tryz.prog W r b0 60 v) (h : DataW.Trod enc Tryz.prog W base spare held 60 v d p) : ∃ ts, DksAt W v ts ∧ ∀ x ∈ ts, DkWf x := by
  obtain ⟨a0, len0, cap0, rfl⟩ := okWide_slice Tryz.underlying60 hv
  obtain ⟨fuel, hf⟩ := h
  exact open_dks hf

theorem codeD_ref {ok pok da : Bool} {nd np : Nat} (hp : pok = true) : (codeD ok (true && da) nd ≠ 0 → (refN (ok && pok) da (limB nd np) : Int) = codeD ok (true && da) nd) ∧ (codeD ok (true && da) nd = 0 → 8 < np → refN (ok && pok) da (limB nd np) = 3) ∧ (codeD ok (true && da) nd = 0 → np ≤ 8 → refN (ok && pok) da (limB nd np) = 0 ∧ ok = true ∧ da = true ∧ nd ≤ 8) := by
  subst hp
  have l1 : limB nd np = (!decide (8 < nd) && !decide (8 < np)) := by
    unfold limB
    rw [Bool.eq_iff_iff]
    simp
    omega
  rw [l1]
  unfold codeD refN
  cases ok <;> cases da <;> by_cases h1 : 8 < nd <;> by_cases h2 : 8 < np <;> simp [h1, h2] <;> omega

theorem FnExactSuitBits_walk (wd hg : Int) (sv : Value) (ws : List Wn) (rw0 : RmWf wd hg ws) (dv : Value) (ds : List Dk) (hdf : ∀ x ∈ ds, DkWf x) (pv : Value) (ps : List Pn) (_ : ∀ x ∈ ps, PnWf x) (w : World) (hws : WinsAt w sv ws) (hds : DksAt w dv ds) (hps : PnsAt w pv ps) {e0 e1 e2 e3 : Addr} (hE : ErrsAt w e0 e1 e2 e3) :
    Calls Tryz.prog 4 #[.agg (roomC wd hg sv), dv, pv] w fun e w' => e = .returned (.bool true) ∧ Below w.heap.size w w' := by
  obtain ⟨iw, ih, hwf⟩ := rw0
  have bad : ∀ (k : Nat), (k = 1 ∨ k = 2 ∨ k = 3) → refN (okRm wd hg ws && ps.all fitP) (ds.all (fitD wd hg)) (limB ds.length ps.length) = k → SbAns (ps.all fitP) (codeD (okRm wd hg ws) (true && ds.all (fitD wd hg)) ds.length) ps.length (k : Int) [] (ds.map (sbD wd hg ws ps)) →
      Calls Tryz.prog 4 #[.agg (roomC wd hg sv), dv, pv] w fun e w' => e = .returned (.bool true) ∧ Below w.heap.size w w' := by
    intro k hk hn ha
    refine lawSb_core wd hg sv dv pv ws ds ps [] (by decide) (k : Int) e0 e1 e2 e3 (fun s d p W h1 h2 h3 => sSb_any wd hg iw ih s d p ws hwf ds hdf ps (k : Int) [] ha W h1 h2 h3) (fun s d p W h1 h2 h3 h4 => ?_) w hws hds hps hE
    have none_own : ∀ X : World, Own X W.heap.size 139 (Value.int .u16) (.slice none 0 0) ([] : List Int) := fun X => ⟨none, 0, rfl, by unfold maxLen; omega, Nat.le_refl _, .inl ⟨rfl, rfl⟩⟩
    rcases hk with rfl | rfl | rfl
    · exact (iSb_n1 wd hg s d p ws ds ps e0 e1 e2 e3 W h1 h2 h3 h4 hn).mono (fun e w' h => ⟨⟨_, h.1, none_own w'⟩, h.2⟩)
    · exact (iSb_n2 wd hg s d p ws ds ps e0 e1 e2 e3 W h1 h2 h3 h4 hn).mono (fun e w' h => ⟨⟨_, h.1, none_own w'⟩, h.2⟩)
    · exact (iSb_n3 wd hg s d p ws ds ps e0 e1 e2 e3 W h1 h2 h3 h4 hn).mono (fun e w' h => ⟨⟨_, h.1, none_own w'⟩, h.2⟩)
  cases hp : ps.all fitP with
  | false =>
    refine bad 1 (.inl rfl) ?_ ⟨fun _ => ⟨rfl, rfl⟩, fun h => ?_, fun h => ?_, fun h => ?_⟩
    · rw [hp]; unfold refN; simp
    all_goals rw [hp] at h; cases h
  | true =>
    obtain ⟨h1, h2, h3⟩ := codeD_ref (ok := okRm wd hg ws) (da := ds.all (fitD wd hg)) (nd := ds.length) (np := ps.length) hp
    by_cases hc : codeD (okRm wd hg ws) (true && ds.all (fitD wd hg)) ds.length = 0
    · by_cases hm : 8 < ps.length
      · refine bad 3 (.inr (.inr rfl)) (h2 hc hm) ⟨fun h => ?_, fun _ h => absurd hc h, fun _ _ _ => ⟨rfl, rfl⟩, fun _ _ h => absurd h (by omega)⟩
        rw [hp] at h; cases h
      · obtain ⟨e0', hv, ha, hd⟩ := h3 hc (by omega)
        have hans : SbAns (ps.all fitP) (codeD (okRm wd hg ws) (true && ds.all (fitD wd hg)) ds.length) ps.length 0 (ds.map (sbD wd hg ws ps)) (ds.map (sbD wd hg ws ps)) := ⟨fun h => (by rw [hp] at h; cases h), fun _ h => absurd hc h, fun _ _ h => absurd h (by omega), fun _ _ _ => ⟨rfl, rfl⟩⟩
        exact lawSb_core wd hg sv dv pv ws ds ps (ds.map (sbD wd hg ws ps)) (by rw [List.length_map]; omega) 0 e0 e1 e2 e3 (fun s d p W q1 q2 q3 => sSb_any wd hg iw ih s d p ws hwf ds hdf ps 0 _ hans W q1 q2 q3) (fun s d p W q1 q2 q3 q4 => iSb_y wd hg s d p ws ds ps (okRm_get hv) hwf e0 e1 e2 e3 W q1 q2 q3 q4 e0' ha hd (by omega)) w hws hds hps hE
    · have hk := h1 hc
      have hk2 : refN (okRm wd hg ws && ps.all fitP) (ds.all (fitD wd hg)) (limB ds.length ps.length) = 1 ∨ refN (okRm wd hg ws && ps.all fitP) (ds.all (fitD wd hg)) (limB ds.length ps.length) = 2 ∨ refN (okRm wd hg ws && ps.all fitP) (ds.all (fitD wd hg)) (limB ds.length ps.length) = 3 ∨ refN (okRm wd hg ws && ps.all fitP) (ds.all (fitD wd hg)) (limB ds.length ps.length) = 0 := by
        unfold refN; split; exact .inl rfl; split; exact .inr (.inl rfl); split; exact .inr (.inr (.inl rfl)); exact .inr (.inr (.inr rfl))
      have hz : refN (okRm wd hg ws && ps.all fitP) (ds.all (fitD wd hg)) (limB ds.length ps.length) ≠ 0 := fun h => hc (by rw [← hk, h]; rfl)
      refine bad _ (by omega) rfl ⟨fun h => ?_, fun _ _ => ⟨hk, rfl⟩, fun _ h => absurd h hc, fun _ h => absurd h hc⟩
      rw [hp] at h; cases h

end Go.Proofs.YtpcmcopfdghdgaaGreatDoor

namespace Go.Proofs.YtpcmcopfdghdgaaGreatDoor
open Go.ChangeShapes Go.WideShapes Go.ChangeAt Go.RowKit

set_option maxRecDepth 100000 in
theorem cells_arr : Tryz.prog.cellsOf 44 = 24 := by kernel_rfl

set_option maxRecDepth 100000 in
theorem cells_i16 : Tryz.prog.cellsOf 26 = 1 := by kernel_rfl

def rd16 : Value → Int | .int _ n => n | _ => 0

set_option maxRecDepth 100000 in
theorem open_arr {H : Type} {enc : TypeId × Value → H} {W : World} {base : Nat} {spare : Nat → Bool} {held : Bool} {fuel : Nat} {cs : List Value} {x : DataW H × List MemPlace}
    (h : DataW.trod enc Tryz.prog W base spare held fuel 44 cs = some x) : ∀ i, i < 24 → ∃ n, cs[i]? = some (.int .i16 n) ∧ -32768 ≤ n ∧ n ≤ 32767 := by
  obtain ⟨xs, m, _, _, hl, hlen, hf⟩ := Go.DataW.trod_array Tryz.underlying44 h
  rw [cells_arr] at hl
  intro i hi
  have h1 := hf i hi
  rw [cells_i16, Nat.mul_one] at h1
  rw [List.getElem?_eq_getElem (by omega : i < xs.length)] at h1
  obtain ⟨n, hn, _, hw⟩ := DataW.trod_int Tryz.underlying26 h1
  refine ⟨n, ?_, ?_⟩
  · have h2 : ((cs.drop i).take 1)[0]? = some (.int .i16 n) := by rw [hn]; rfl
    rw [List.getElem?_take_of_lt (by decide), List.getElem?_drop] at h2
    simpa using h2
  · simp [Lit.wf, IntKind.min, IntKind.max, IntKind.signed, IntKind.bits] at hw
    omega

end Go.Proofs.YtpcmcopfdghdgaaGreatDoor
