import Derived.Test.YtmlejnbjclkdjaaGreatDoorPrAl
import Derived.Lib.OthersKept
set_option linter.all false
def Go.Lib.OthersKept.j:=@Go.Lib.OthersKept.trans
def Go.Lib.OthersKept.J:=@Go.Lib.OthersKept.grown
