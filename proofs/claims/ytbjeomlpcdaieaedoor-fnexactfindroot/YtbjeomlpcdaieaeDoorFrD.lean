import Derived.Test.YtbjeomlpcdaieaeDoorFrP
import Derived.Test.YtbjeomlpcdaieaeDoorSyn
namespace Go.Proofs.YtbjeomlpcdaieaeDoor
open Go.RowKit
set_option linter.unusedVariables false
/-- What FindRoot answers. -/
def frD (ss : List ByteArray) (ws : List (Int × ByteArray)) (n : Int) : RtT := if diskOk ss ws = true ∧ 1 ≤ n ∧ n ≤ 8 then frOf ((syncs ws ss).getD 0 ByteArray.empty) ((syncs ws ss).getD 1 ByteArray.empty) n else rtZ
end Go.Proofs.YtbjeomlpcdaieaeDoor
