import Derived.Test.YteflhojcomcfaaaGreatDoorPrAl
import Derived.Deep.Onto
set_option linter.all false
def Go.World.ownsRow.J:=@Go.World.ownsRow.mono
