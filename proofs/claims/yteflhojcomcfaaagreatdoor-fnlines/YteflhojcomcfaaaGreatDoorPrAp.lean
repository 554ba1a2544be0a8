import Derived.Test.YteflhojcomcfaaaGreatDoorPrAl
import Derived.Lib.OthersKept
set_option linter.all false
def Go.Lib.OthersKept.E:=@Go.Lib.OthersKept.trans
def Go.Lib.OthersKept.V:=@Go.Lib.OthersKept.grown
