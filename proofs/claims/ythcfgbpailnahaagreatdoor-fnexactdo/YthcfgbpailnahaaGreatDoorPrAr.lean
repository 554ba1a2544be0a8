import Derived.Test.YthcfgbpailnahaaGreatDoorPrAl
import Derived.Deep.Onto
set_option linter.all false
namespace Go.Proofs.YthcfgbpailnahaaGreatDoor
open Go.RowKit
def _root_.Go.World.ownsRow.i:=@Go.World.ownsRow.mono
