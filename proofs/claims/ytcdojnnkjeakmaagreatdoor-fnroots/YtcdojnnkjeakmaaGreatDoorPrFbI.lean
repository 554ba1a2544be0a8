import Derived.Shelf.Strings.Builder1
import Derived.Test.YtcdojnnkjeakmaaGreatDoorPrG47
set_option maxHeartbeats 16000000
namespace Go.Proofs.YtcdojnnkjeakmaaGreatDoor
open Go.RowKit
set_option maxRecDepth 4000
set_option linter.unusedVariables false
theorem bs {w x y:World} (h:Below w.heap.size w x) (hb:Below x.heap.size x y):Below w.heap.size w y:=h.trans (hb.mono h.size)
end Go.Proofs.YtcdojnnkjeakmaaGreatDoor
