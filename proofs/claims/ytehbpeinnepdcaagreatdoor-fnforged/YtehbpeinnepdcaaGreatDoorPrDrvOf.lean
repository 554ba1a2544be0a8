import Derived.Great.BuildSlice
import Derived.Test.YtehbpeinnepdcaaGreatDoorPrG44
set_option maxHeartbeats 16000000
namespace Go.Proofs.YtehbpeinnepdcaaGreatDoor
open Go.RowKit
set_option linter.unusedVariables false
def ZiU (ws:List (Int×ByteArray)):List (Int×List Int):=ws.map fun x=>(x.1,zFD x.2)
theorem qOd (ws:List (Int×ByteArray)):(ZiU ws).length=ws.length:=by simp [ZiU]
end Go.Proofs.YtehbpeinnepdcaaGreatDoor
