import Derived.Test.YthcfgbpailnahaaGreatDoorPrAl
import Derived.Deep.LoopGhost
set_option linter.all false
namespace Go.Proofs.YthcfgbpailnahaaGreatDoor
open Go.RowKit
def _root_.Go.Aside.o:=@Go.Aside.out
