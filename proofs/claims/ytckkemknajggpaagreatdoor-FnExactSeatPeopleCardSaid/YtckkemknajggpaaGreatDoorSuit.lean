/-
  Whom a desk suits: the program, and the model.
-/
import Derived.Test.YtckkemknajggpaaGreatDoorLightA
import Derived.Test.YtckkemknajggpaaGreatDoorGlareS
import Derived.Test.YtckkemknajggpaaGreatDoorValidPerson
namespace Go.Proofs.YtckkemknajggpaaGreatDoor
open Go.RowKit

attribute [local go_sem] run_store_f
theorem ret_boolP {a b : Bool} (h : a = b) : Ending.returned (.bool a) = .returned (.bool b) := by rw [h]
theorem pers_one (l m g : Nat) : ∀ v ∈ persC l m g, v.oneCell' = true := by
  intro v hv
  simp only [persC, List.mem_toArray, List.mem_cons, List.not_mem_nil, or_false] at hv
  rcases hv with rfl | rfl | rfl <;> rfl
theorem ge0_yes {o : Option Ordering} (h : ge0 o = true) : o = some .gt ∨ o = some .eq := by
  rcases o with _ | (_ | _ | _) <;> simp_all [ge0]
theorem ge0_no {o : Option Ordering} (h : ge0 o = false) : ¬ (o = some .gt ∨ o = some .eq) := by
  rcases o with _ | (_ | _ | _) <;> simp_all [ge0]
theorem le0_yes {o : Option Ordering} (h : le0 o = true) : o = some .lt ∨ o = some .eq := by
  rcases o with _ | (_ | _ | _) <;> simp_all [le0]
theorem le0_no {o : Option Ordering} (h : le0 o = false) : ¬ (o = some .lt ∨ o = some .eq) := by
  rcases o with _ | (_ | _ | _) <;> simp_all [le0]
/-- What the walk over one person keeps. -/
def SuRel (w : World) (pb : Nat) (z : Int) (l m g : Nat) (q i : Value) (wr : World) : Prop :=
  ((q = .int .u16 0 ∧ i = .int .i64 0) ∨ (q = .int .u16 z ∧ i = .int .i64 1)) ∧ Below w.heap.size w wr ∧ wr.heap[pb]? = some (.cells (persC l m g) 72 (0, 0))
/-- Does so much light, and so much glare, suit a person? -/
def suB (li gr l m g : Nat) : Bool := (ge0 (FloatKind.f32.format.order li l) && le0 (FloatKind.f32.format.order li m)) && le0 (FloatKind.f32.format.order gr g)
def suW (wd hg a1 a2 a3 : Int) (ws : List Wn) (l m g : Nat) : Bool := suB (litW wd hg (a1, a2) (fun _ => true) ws) (litW wd hg (a1, a2) (glW wd hg a1 a2 a3) ws) l m g
def suN (b : Bool) : Int := if b then 1 else 0

set_option maxRecDepth 100000 in
set_option maxHeartbeats 1000000 in
theorem suited_one (wd hg : Int) (sv : Value) (ws : List Wn) (ok : RmOk wd hg ws) (hwf : ∀ x ∈ ws, WnWf x) (a1 a2 a3 : Int) (ha : inRoom wd hg (a1, a2)) (l0 : 0 ≤ a3) (l3 : a3 ≤ 3) (l m g : Nat) (pb : Nat) (w : World) (hws : WinsAt w sv ws) (hp : w.heap[pb]? = some (.cells (persC l m g) 72 (0, 0))) :
    Calls Tryz.prog 50 #[.agg (roomC wd hg sv), .agg (deskC a1 a2 a3), .slice (some ⟨pb, 0, none⟩) 1 1] w fun e w' => e = .returned (.int .u16 (suN (suW wd hg a1 a2 a3 ws l m g))) ∧ Below w.heap.size w w' := by
  have HL := Lib.hid (fun W (h : WinsAt W sv ws) => lightAt_any wd hg sv ws ok hwf a1 a2 ha W h)
  have HG := Lib.hid (fun W (h : WinsAt W sv ws) => glareAt_any wd hg sv ws ok hwf a1 a2 a3 ha l0 l3 W h)
  have HV := Lib.hid hws
  have HP := Lib.hid hp
  have HD := Lib.hid (show suW wd hg a1 a2 a3 ws l m g = suB (litW wd hg (a1, a2) (fun _ => true) ws) (litW wd hg (a1, a2) (glW wd hg a1 a2 a3) ws) l m g from rfl)
  generalize suW wd hg a1 a2 a3 ws l m g = res at *
  generalize litW wd hg (a1, a2) (fun _ => true) ws = li at *
  generalize litW wd hg (a1, a2) (glW wd hg a1 a2 a3) ws = gr at *
  clear ok hwf ha l0 l3 hws hp
  go_enter Tryz.func50, Tryz.ntmps50
  go_upto_region 1 with (fail)
  refine abs_world (fun W => W.heap[w.heap.size]? = some (.cells (roomC wd hg sv) 36 (0, 0)) ∧ W.heap[w.heap.size + 1]? = some (.cells (deskC a1 a2 a3) 65 (0, 0)) ∧ Below w.heap.size w W) (box2 w (.cells (roomC wd hg sv) 36) (.cells (deskC a1 a2 a3) 65)) ?_
  rintro W ⟨h0, h1, hb⟩
  generalize w.heap.size + 1 = b1 at *
  have H0 := Lib.hid h0
  have H1 := Lib.hid h1
  replace HV := Lib.hid (wins_below HV.out hb)
  replace HP := Lib.hid (below_row hb HP.out)
  clear h0 h1
  refine wp_region_held_drew (S := (fun V => Below W.heap.size W V)) (by kernel_rfl) ((Below.refl _ _).drew) (fun hHeld => ?_)
  refine take_op (i := 0) (d := 12) (v := .agg (roomC wd hg sv)) rfl rfl (by kernel_rfl) (by kernel_rfl) (by kernel_rfl) (fun _ _ _ h => h) (yields_row (by rfl) 36 (.tmp 3) (by rfl) w.heap.size 0 3 (by rfl) 36 (roomC wd hg sv) (0, 0) _ (fun _ h => below_row h H0.out) Tryz.underlying36 rfl info_room (room_fits _ _ _) (roomC wd hg sv) (room_all _ _ _)) hHeld ?_
  simp only [List.setIfInBounds_toArray, List.set_cons_zero, List.set_cons_succ]
  refine take_op (i := 1) (d := 13) (v := ?_) rfl rfl (by kernel_rfl) (by kernel_rfl) (by kernel_rfl) (fun _ _ _ h => h) (Or.inl ⟨by rfl, ?hy1u1⟩) hHeld ?rest1u1
  case hy1u1 =>
    intro w' hS'
    go_simp
    try with_reducible rfl
  simp only [List.setIfInBounds_toArray, List.set_cons_zero, List.set_cons_succ]
  refine take_op (i := 2) (d := 14) (v := .agg (tileC a1 a2)) rfl rfl (by kernel_rfl) (by kernel_rfl) (by kernel_rfl) (fun _ _ _ h => h) (yields_row (by rfl) 63 (.tmp 13) (by rfl) b1 0 2 (by rfl) 65 (deskC a1 a2 a3) (0, 0) _ (fun _ h => below_row h H1.out) Tryz.underlying63 rfl info_tile (desk_fits2 _ _ _) (tileC a1 a2) (desk_tile _ _ _)) hHeld ?_
  simp only [List.setIfInBounds_toArray, List.set_cons_zero, List.set_cons_succ]
  refine take_op (i := 4) (d := 16) (v := .agg (roomC wd hg sv)) rfl rfl (by kernel_rfl) (by kernel_rfl) (by kernel_rfl) (fun _ _ _ h => h) (yields_row (by rfl) 36 (.tmp 3) (by rfl) w.heap.size 0 3 (by rfl) 36 (roomC wd hg sv) (0, 0) _ (fun _ h => below_row h H0.out) Tryz.underlying36 rfl info_room (room_fits _ _ _) (roomC wd hg sv) (room_all _ _ _)) hHeld ?_
  simp only [List.setIfInBounds_toArray, List.set_cons_zero, List.set_cons_succ]
  refine take_op (i := 5) (d := 17) (v := .agg (deskC a1 a2 a3)) rfl rfl (by kernel_rfl) (by kernel_rfl) (by kernel_rfl) (fun _ _ _ h => h) (yields_row (by rfl) 65 (.tmp 4) (by rfl) b1 0 3 (by rfl) 65 (deskC a1 a2 a3) (0, 0) _ (fun _ h => below_row h H1.out) Tryz.underlying65 rfl info_desk (desk_fits _ _ _) (deskC a1 a2 a3) (desk_all _ _ _)) hHeld ?_
  simp only [List.setIfInBounds_toArray, List.set_cons_zero, List.set_cons_succ]
  refine wpAnyH_ready (rs := [3]) (by kernel_rfl) (by simp) ?_
  refine AllReadyH.cons rfl (fun K hK => ?_) AllReadyH.nil
  go_simp
  refine (HL.out _ (wins_below HV.out hHeld)).mono ?_
  rintro e W1 ⟨rfl, hb1⟩
  refine hK.out _ _ (hHeld.trans (hb1.mono hHeld.size)) (fun hHeld2 => ?_)
  clear hK K
  replace hHeld := hHeld2
  clear hHeld2
  clear hb1
  refine wpAnyH_ready (rs := [6]) (by kernel_rfl) (by simp) ?_
  refine AllReadyH.cons rfl (fun K hK => ?_) AllReadyH.nil
  go_simp
  refine (HG.out _ (wins_below HV.out hHeld)).mono ?_
  rintro e W2 ⟨rfl, hb2⟩
  refine hK.out _ _ (hHeld.trans (hb2.mono hHeld.size)) (fun hHeld2 => ?_)
  clear hK K
  replace hHeld := hHeld2
  clear hHeld2
  clear hb2
  refine take_op (i := 7) (d := 7) (v := ?_) rfl rfl (by kernel_rfl) (by kernel_rfl) (by kernel_rfl) (fun _ _ _ h => h) (Or.inl ⟨by rfl, ?hy7u2⟩) hHeld ?rest7u2
  case hy7u2 =>
    intro w' hS'
    go_simp
    try with_reducible rfl
  simp only [List.setIfInBounds_toArray, List.set_cons_zero, List.set_cons_succ]
  refine take_op (i := 8) (d := 8) (v := ?_) rfl rfl (by kernel_rfl) (by kernel_rfl) (by kernel_rfl) (fun _ _ _ h => h) (Or.inl ⟨by rfl, ?hy8u3⟩) hHeld ?rest8u3
  case hy8u3 =>
    intro w' hS'
    go_simp
    try with_reducible rfl
  simp only [List.setIfInBounds_toArray, List.set_cons_zero, List.set_cons_succ]
  refine wpAnyH_done (by kernel_rfl) ?_ _
  replace H0 := Lib.hid (below_row hHeld H0.out)
  replace H1 := Lib.hid (below_row hHeld H1.out)
  replace HV := Lib.hid (wins_below HV.out hHeld)
  replace HP := Lib.hid (below_row hHeld HP.out)
  replace hb := hb.trans (hHeld.mono hb.size)
  clear hHeld
  clear H0 H1 HV HL HG
  have HB0 := Lib.hid hb
  go_wp2
  go_loopw [9, 21] (fun q i wr => SuRel w pb  (suN res) l m g q i wr) (fun _ i _ => 1 - (intOf i).toNat)
  case atStart => exact ⟨.inl ⟨rfl, rfl⟩, hb, HP.out⟩
  case round =>
    clear hb HB0 HP
    obtain ⟨hq, hb, hp⟩ := hrel
    have HP := Lib.hid hp
    clear hp
    rcases hq with ⟨rfl, rfl⟩ | ⟨rfl, rfl⟩
    · skip
      go_upto_region 6 with (first | (refine wpList_load_partG 72 _ rfl pb 0 3 rfl rfl 72 (persC l m g) (0, 0) _ HP.out Tryz.underlying72 rfl info_pers (pers_fits _ _ _) _ (pers_all _ _ _) ?_) | (refine wpList_store_part rfl 72 _ _ rfl _ 0 (persC l m g) rfl rfl 72 _ (heap_alloc_new _ _) (by kernel_rfl) (Nat.le_refl _) (pers_one _ _ _) ?_; rw [laid_allr _ _ (by rfl)]))
      refine abs_world (fun V => Below wr.heap.size wr V ∧ V.heap[wr.heap.size]? = some (.cells (persC l m g) 72 (0, 0))) ⟨below_setRow ((Below.refl _ _).alloc (Nat.le_refl _) _) (Nat.le_refl _) _, setRow_heap _ _ _ _ _ _ (heap_alloc_new _ _)⟩ ?_
      rintro V ⟨hb1, h9⟩
      replace HP := Lib.hid (below_row hb1 HP.out)
      replace hb := hb.trans (hb1.mono hb.size)
      obtain ⟨p0, p1, p2⟩ := pers_cells h9
      clear hb1 h9
      generalize wr.heap.size = nb at *
      rcases h0 : FloatKind.f32.format.order li l with _ | (_ | _ | _)
      · have HR : Hid (res = false) := by unfold Hid; rw [HD.out]; unfold suB ge0 le0; rw [h0]; simp
        go_wp2
        go_roundw
        case rel => exact ⟨.inr ⟨by rw [HR.out]; rfl, rfl⟩, hb, HP.out⟩
        case measure => simp [intOf]
      · have HR : Hid (res = false) := by unfold Hid; rw [HD.out]; unfold suB ge0 le0; rw [h0]; simp
        go_wp2
        go_roundw
        case rel => exact ⟨.inr ⟨by rw [HR.out]; rfl, rfl⟩, hb, HP.out⟩
        case measure => simp [intOf]
      · rcases h1 : FloatKind.f32.format.order li m with _ | (_ | _ | _)
        · have HR : Hid (res = false) := by unfold Hid; rw [HD.out]; unfold suB ge0 le0; rw [h0, h1]; simp
          go_wp2
          go_roundw
          case rel => exact ⟨.inr ⟨by rw [HR.out]; rfl, rfl⟩, hb, HP.out⟩
          case measure => simp [intOf]
        · rcases h2 : FloatKind.f32.format.order gr g with _ | (_ | _ | _)
          · have HR : Hid (res = false) := by unfold Hid; rw [HD.out]; unfold suB ge0 le0; rw [h0, h1, h2]; rfl
            go_wp2
            go_roundw
            case rel => exact ⟨.inr ⟨by rw [HR.out]; rfl, rfl⟩, hb, HP.out⟩
            case measure => simp [intOf]
          · have HR : Hid (res = true) := by unfold Hid; rw [HD.out]; unfold suB ge0 le0; rw [h0, h1, h2]; rfl
            go_wp2
            go_roundw
            case rel => exact ⟨.inr ⟨by rw [HR.out]; rfl, rfl⟩, hb, HP.out⟩
            case measure => simp [intOf]
          · have HR : Hid (res = true) := by unfold Hid; rw [HD.out]; unfold suB ge0 le0; rw [h0, h1, h2]; rfl
            go_wp2
            go_roundw
            case rel => exact ⟨.inr ⟨by rw [HR.out]; rfl, rfl⟩, hb, HP.out⟩
            case measure => simp [intOf]
          · have HR : Hid (res = false) := by unfold Hid; rw [HD.out]; unfold suB ge0 le0; rw [h0, h1, h2]; rfl
            go_wp2
            go_roundw
            case rel => exact ⟨.inr ⟨by rw [HR.out]; rfl, rfl⟩, hb, HP.out⟩
            case measure => simp [intOf]
        · rcases h2 : FloatKind.f32.format.order gr g with _ | (_ | _ | _)
          · have HR : Hid (res = false) := by unfold Hid; rw [HD.out]; unfold suB ge0 le0; rw [h0, h1, h2]; rfl
            go_wp2
            go_roundw
            case rel => exact ⟨.inr ⟨by rw [HR.out]; rfl, rfl⟩, hb, HP.out⟩
            case measure => simp [intOf]
          · have HR : Hid (res = true) := by unfold Hid; rw [HD.out]; unfold suB ge0 le0; rw [h0, h1, h2]; rfl
            go_wp2
            go_roundw
            case rel => exact ⟨.inr ⟨by rw [HR.out]; rfl, rfl⟩, hb, HP.out⟩
            case measure => simp [intOf]
          · have HR : Hid (res = true) := by unfold Hid; rw [HD.out]; unfold suB ge0 le0; rw [h0, h1, h2]; rfl
            go_wp2
            go_roundw
            case rel => exact ⟨.inr ⟨by rw [HR.out]; rfl, rfl⟩, hb, HP.out⟩
            case measure => simp [intOf]
          · have HR : Hid (res = false) := by unfold Hid; rw [HD.out]; unfold suB ge0 le0; rw [h0, h1, h2]; rfl
            go_wp2
            go_roundw
            case rel => exact ⟨.inr ⟨by rw [HR.out]; rfl, rfl⟩, hb, HP.out⟩
            case measure => simp [intOf]
        · have HR : Hid (res = false) := by unfold Hid; rw [HD.out]; unfold suB ge0 le0; rw [h0, h1]; simp
          go_wp2
          go_roundw
          case rel => exact ⟨.inr ⟨by rw [HR.out]; rfl, rfl⟩, hb, HP.out⟩
          case measure => simp [intOf]
      · rcases h1 : FloatKind.f32.format.order li m with _ | (_ | _ | _)
        · have HR : Hid (res = false) := by unfold Hid; rw [HD.out]; unfold suB ge0 le0; rw [h0, h1]; simp
          go_wp2
          go_roundw
          case rel => exact ⟨.inr ⟨by rw [HR.out]; rfl, rfl⟩, hb, HP.out⟩
          case measure => simp [intOf]
        · rcases h2 : FloatKind.f32.format.order gr g with _ | (_ | _ | _)
          · have HR : Hid (res = false) := by unfold Hid; rw [HD.out]; unfold suB ge0 le0; rw [h0, h1, h2]; rfl
            go_wp2
            go_roundw
            case rel => exact ⟨.inr ⟨by rw [HR.out]; rfl, rfl⟩, hb, HP.out⟩
            case measure => simp [intOf]
          · have HR : Hid (res = true) := by unfold Hid; rw [HD.out]; unfold suB ge0 le0; rw [h0, h1, h2]; rfl
            go_wp2
            go_roundw
            case rel => exact ⟨.inr ⟨by rw [HR.out]; rfl, rfl⟩, hb, HP.out⟩
            case measure => simp [intOf]
          · have HR : Hid (res = true) := by unfold Hid; rw [HD.out]; unfold suB ge0 le0; rw [h0, h1, h2]; rfl
            go_wp2
            go_roundw
            case rel => exact ⟨.inr ⟨by rw [HR.out]; rfl, rfl⟩, hb, HP.out⟩
            case measure => simp [intOf]
          · have HR : Hid (res = false) := by unfold Hid; rw [HD.out]; unfold suB ge0 le0; rw [h0, h1, h2]; rfl
            go_wp2
            go_roundw
            case rel => exact ⟨.inr ⟨by rw [HR.out]; rfl, rfl⟩, hb, HP.out⟩
            case measure => simp [intOf]
        · rcases h2 : FloatKind.f32.format.order gr g with _ | (_ | _ | _)
          · have HR : Hid (res = false) := by unfold Hid; rw [HD.out]; unfold suB ge0 le0; rw [h0, h1, h2]; rfl
            go_wp2
            go_roundw
            case rel => exact ⟨.inr ⟨by rw [HR.out]; rfl, rfl⟩, hb, HP.out⟩
            case measure => simp [intOf]
          · have HR : Hid (res = true) := by unfold Hid; rw [HD.out]; unfold suB ge0 le0; rw [h0, h1, h2]; rfl
            go_wp2
            go_roundw
            case rel => exact ⟨.inr ⟨by rw [HR.out]; rfl, rfl⟩, hb, HP.out⟩
            case measure => simp [intOf]
          · have HR : Hid (res = true) := by unfold Hid; rw [HD.out]; unfold suB ge0 le0; rw [h0, h1, h2]; rfl
            go_wp2
            go_roundw
            case rel => exact ⟨.inr ⟨by rw [HR.out]; rfl, rfl⟩, hb, HP.out⟩
            case measure => simp [intOf]
          · have HR : Hid (res = false) := by unfold Hid; rw [HD.out]; unfold suB ge0 le0; rw [h0, h1, h2]; rfl
            go_wp2
            go_roundw
            case rel => exact ⟨.inr ⟨by rw [HR.out]; rfl, rfl⟩, hb, HP.out⟩
            case measure => simp [intOf]
        · have HR : Hid (res = false) := by unfold Hid; rw [HD.out]; unfold suB ge0 le0; rw [h0, h1]; simp
          go_wp2
          go_roundw
          case rel => exact ⟨.inr ⟨by rw [HR.out]; rfl, rfl⟩, hb, HP.out⟩
          case measure => simp [intOf]
    · go_wp2
      go_ret
      exact ⟨rfl, hb⟩

end Go.Proofs.YtckkemknajggpaaGreatDoor
