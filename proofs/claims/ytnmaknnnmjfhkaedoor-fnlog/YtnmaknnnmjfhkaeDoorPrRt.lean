import Derived.Test.YtnmaknnnmjfhkaeDoorPrPageI
import Derived.Test.YtnmaknnnmjfhkaeDoorPrG32
namespace Go.Proofs.YtnmaknnnmjfhkaeDoor
open Go.RowKit
set_option maxRecDepth 4000
set_option linter.unusedVariables false
set_option linter.unusedSimpArgs false
abbrev rtOk (h f : Int) : Prop := 0 ≤ h ∧ h ≤ 1 ∧ 1 ≤ f ∧ f ≤ 999999000
end Go.Proofs.YtnmaknnnmjfhkaeDoor
