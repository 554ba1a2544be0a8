import Derived.Test.YtjdmogljfdffeaaGreatDoorPrAl
import Derived.Deep.Onto
set_option linter.all false
def Go.World.ownsRow.A:=@Go.World.ownsRow.mono
