import Derived.Test.YthcfgbpailnahaaGreatDoorPrAl
import Derived.RangeFuncOwn
set_option linter.all false
namespace Go.Proofs.YthcfgbpailnahaaGreatDoor
open Go.RowKit
def _root_.Go.KeepsOthers.j:=@Go.KeepsOthers.trans
