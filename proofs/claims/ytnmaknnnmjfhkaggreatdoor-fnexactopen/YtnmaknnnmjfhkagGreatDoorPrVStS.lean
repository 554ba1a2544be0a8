import Derived.Test.YtnmaknnnmjfhkagGreatDoorPrG27
import Derived.Test.YtnmaknnnmjfhkagGreatDoorPrG43
namespace Go.Proofs.YtnmaknnnmjfhkagGreatDoor
open Go.RowKit
set_option linter.unusedVariables false
set_option linter.unusedSimpArgs false
set_option maxRecDepth 4000
def rootOk (T H F R : Int) : Bool := decide (0 ≤ T ∧ T ≤ 1000000000) && decide (0 ≤ R ∧ R ≤ 60000) && decide (0 ≤ H ∧ H ≤ 1) && decide (1 ≤ F ∧ F ≤ 999999000)
theorem hv_yes {S : Int} (h : 8 ≤ S ∧ S ≤ 200) : 3 ≤ hv S ∧ hv S ≤ 99 := by unfold hv; rw [if_pos h]; omega
theorem hv_no {S : Int} (h : ¬ (8 ≤ S ∧ S ≤ 200)) : hv S = 0 := by unfold hv; rw [if_neg h]
theorem root_no (T H F R : Int) (h : ¬ (0 ≤ T ∧ T ≤ 1000000000) ∨ ¬ (0 ≤ R ∧ R ≤ 60000) ∨ ¬ (0 ≤ H ∧ H ≤ 1) ∨ ¬ (1 ≤ F ∧ F ≤ 999999000)) : rootOk T H F R = false := by
  unfold rootOk
  rcases h with h | h | h | h <;> simp [h]
end Go.Proofs.YtnmaknnnmjfhkagGreatDoor
