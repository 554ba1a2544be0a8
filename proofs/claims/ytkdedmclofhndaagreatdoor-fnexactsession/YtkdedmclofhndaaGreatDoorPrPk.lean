import Derived.Laws.Bits64b
import Derived.Test.YtkdedmclofhndaaGreatDoorPrG33
set_option maxHeartbeats 16000000
namespace Go.Proofs.YtkdedmclofhndaaGreatDoor
open Go.RowKit
set_option maxRecDepth 4000
set_option linter.all false
theorem eh(x:Int)(a:-9223372036854775808<=x)(b:x<=9223372036854775807):IntKind.i64.wrap x=x:=by
 simp[IntKind.wrap,IntKind.bits,IntKind.signed];omega
