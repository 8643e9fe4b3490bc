/-
  The sums by their names: the program and the model.
-/
import Derived.Test.YtjpnbcfdnolcjaaSbM
namespace Go.Proofs.Ytjpnbcfdnolcjaa
open Go.ChangeShapes Go.WideShapes Go.ChangeAt Go.RowKit Go.Deep Go.Joins

attribute [local go_sem] run_store_f

theorem codeLs0 (zs : List Nat) : (okLs zs = true ∧ codeLs zs 0 = 0) ∨ (okLs zs = false ∧ codeLs zs 0 = 1) := by
  unfold codeLs
  cases okLs zs with
  | false => right; exact ⟨rfl, if_pos rfl⟩
  | true => left; exact ⟨rfl, by rw [if_neg (by decide), if_neg (by omega)]⟩

end Go.Proofs.Ytjpnbcfdnolcjaa
