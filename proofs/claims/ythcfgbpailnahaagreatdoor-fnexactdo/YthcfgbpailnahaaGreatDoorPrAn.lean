import Derived.Test.YthcfgbpailnahaaGreatDoorPrAl
import Derived.Maps.AppendAt
set_option linter.all false
namespace Go.Proofs.YthcfgbpailnahaaGreatDoor
open Go.RowKit
def _root_.Go.World.grownBy.j:=@Go.World.grownBy.trans
