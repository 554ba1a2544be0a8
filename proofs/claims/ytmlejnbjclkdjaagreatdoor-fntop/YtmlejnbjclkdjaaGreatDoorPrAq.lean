import Derived.Test.YtmlejnbjclkdjaaGreatDoorPrAl
import Derived.Deep.LoopGhost
set_option linter.all false
def Go.Aside.l:=@Go.Aside.out
