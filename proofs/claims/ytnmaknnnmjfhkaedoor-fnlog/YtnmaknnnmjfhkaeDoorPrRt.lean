import Derived.Test.YtnmaknnnmjfhkaeDoorPrPageI
import Derived.Test.YtnmaknnnmjfhkaeDoorPrG32
namespace Go.Proofs.YtnmaknnnmjfhkaeDoor
open Go.RowKit
set_option maxRecDepth 4000
set_option linter.unusedVariables false
set_option linter.unusedSimpArgs false
def rtOk (h f : Int) : Prop := 0 ≤ h ∧ h ≤ 1 ∧ 1 ≤ f ∧ f ≤ 999999000
instance (h f : Int) : Decidable (rtOk h f) := by unfold rtOk; exact inferInstance
end Go.Proofs.YtnmaknnnmjfhkaeDoor
