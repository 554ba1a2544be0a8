import Derived.Test.YtmlejnbjclkdjaaGreatDoorPrAl
import Derived.RangeFuncOwn
set_option linter.all false
def Go.KeepsOthers.j:=@Go.KeepsOthers.trans
