import Derived.Test.YteflhojcomcfaaaGreatDoorPrAl
import Derived.Deep.LoopGhost
set_option linter.all false
def Go.Aside.j:=@Go.Aside.out
