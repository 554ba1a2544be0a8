import Derived.Test.YtmlejnbjclkdjaaGreatDoorPrAl
import Derived.Maps.AppendAt
set_option linter.all false
def Go.World.grownBy.j:=@Go.World.grownBy.trans
