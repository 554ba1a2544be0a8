import Derived.Test.YteflhojcomcfaaaGreatDoorPrAl
import Derived.RangeFuncOwn
set_option linter.all false
def Go.KeepsOthers.E:=@Go.KeepsOthers.trans
