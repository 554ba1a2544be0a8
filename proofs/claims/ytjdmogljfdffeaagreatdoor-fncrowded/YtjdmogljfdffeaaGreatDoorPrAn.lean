import Derived.Test.YtjdmogljfdffeaaGreatDoorPrAl
import Derived.Maps.AppendAt
set_option linter.all false
def Go.World.grownBy.j:=@Go.World.grownBy.trans
