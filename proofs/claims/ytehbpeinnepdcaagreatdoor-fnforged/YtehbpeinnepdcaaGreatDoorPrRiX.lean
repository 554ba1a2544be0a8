import Derived.Test.YtehbpeinnepdcaaGreatDoorPrOpS
set_option maxHeartbeats 16000000
namespace Go.Proofs.YtehbpeinnepdcaaGreatDoor
open Go.RowKit
set_option maxRecDepth 8000
set_option linter.unusedVariables false
set_option linter.unusedSimpArgs false
theorem Qf3 {s t:ByteArray} (h:¬ s=t):(s.toList == t.toList)=false:=by
 rw [beq_eq_false_iff_ne];intro hh;rw [ByteArray.toList_eq,ByteArray.toList_eq] at hh;exact h (ByteArray.ext (Array.toList_inj.1 hh))
end Go.Proofs.YtehbpeinnepdcaaGreatDoor
