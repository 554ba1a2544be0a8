import Derived.Test.YthcfgbpailnahaaGreatDoorPrAl
import Derived.Lib.OthersKept
set_option linter.all false
namespace Go.Proofs.YthcfgbpailnahaaGreatDoor
open Go.RowKit
def _root_.Go.Lib.OthersKept.j:=@Go.Lib.OthersKept.trans
def _root_.Go.Lib.OthersKept.z:=@Go.Lib.OthersKept.grown
