import Derived.Test.YthcfgbpailnahaaGreatDoorPrAl
import Derived.Deep.Onto
set_option linter.all false
def Go.World.ownsRow.i:=@Go.World.ownsRow.mono
