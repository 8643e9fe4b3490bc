/-
  The law of LightMap: the walk.
-/
import Derived.Test.YtdccmdcgbembpaaDoorEtE
import Derived.Test.YtdccmdcgbembpaaDoorEtF
import Derived.Test.YtdccmdcgbembpaaDoorRoomE
import Derived.Test.YtdccmdcgbembpaaDoorRoomK
import Derived.Test.YtdccmdcgbembpaaDoorLawC
namespace Go.Proofs.YtdccmdcgbembpaaDoor
open Go.ChangeShapes Go.WideShapes Go.ChangeAt Go.RowKit Go.Deep Go.Joins

attribute [local go_sem] run_store_floatE

theorem mpK_fin {g : Int × Int → Nat} {W H : Nat} (h : ∀ x y : Nat, x < W → y < H → fin32 (g ((x : Int), (y : Int))) = true) (k : Nat) : ∀ v ∈ mpK g W H k, fin32 v = true := by
  intro v hv
  unfold mpK at hv
  obtain ⟨i, _, rfl⟩ := List.mem_map.1 hv
  split
  · rename_i hc
    exact h _ _ hc.1 hc.2.1
  · decide +kernel

theorem zM_fin : ∀ v ∈ zM, fin32 v = true := by
  intro v hv
  rw [zM, List.mem_replicate] at hv
  rw [hv.2]
  decide +kernel

theorem FnExactLightMap_litfin {wd hg : Int} {ws : List Wn} (ok : RmOk wd hg ws) (hwf : ∀ x ∈ ws, WnWf x) {a1 a2 : Int} (ha : inRoom wd hg (a1, a2)) : fin32 (litW wd hg (a1, a2) (fun _ => true) ws) = true :=
  fin_of_lt (Nat.lt_of_le_of_lt (sumL_num (qsW_ok ok.w0 ok.w1 ok.h0 ok.h1 ha (fun y hy => fit_get (hwf y hy) (ok.all y hy))) (Nat.le_trans (qsW_len _ _ _ _ _) ok.len)) (by decide +kernel))

end Go.Proofs.YtdccmdcgbembpaaDoor
