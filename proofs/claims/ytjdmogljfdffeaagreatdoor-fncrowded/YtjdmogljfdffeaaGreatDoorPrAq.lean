import Derived.Test.YtjdmogljfdffeaaGreatDoorPrAl
import Derived.Deep.LoopGhost
set_option linter.all false
def Go.Aside.l:=@Go.Aside.out
