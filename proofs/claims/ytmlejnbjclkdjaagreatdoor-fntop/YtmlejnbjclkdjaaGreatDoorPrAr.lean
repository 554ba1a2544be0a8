import Derived.Test.YtmlejnbjclkdjaaGreatDoorPrAl
import Derived.Deep.Onto
set_option linter.all false
def Go.World.ownsRow.z:=@Go.World.ownsRow.mono
