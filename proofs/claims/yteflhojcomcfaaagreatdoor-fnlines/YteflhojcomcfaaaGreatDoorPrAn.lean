import Derived.Test.YteflhojcomcfaaaGreatDoorPrAl
import Derived.Maps.AppendAt
set_option linter.all false
def Go.World.grownBy.E:=@Go.World.grownBy.trans
