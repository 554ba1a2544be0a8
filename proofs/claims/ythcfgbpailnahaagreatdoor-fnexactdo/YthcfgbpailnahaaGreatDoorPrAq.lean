import Derived.Test.YthcfgbpailnahaaGreatDoorPrAl
import Derived.Deep.LoopGhost
set_option linter.all false
def Go.Aside.o:=@Go.Aside.out
