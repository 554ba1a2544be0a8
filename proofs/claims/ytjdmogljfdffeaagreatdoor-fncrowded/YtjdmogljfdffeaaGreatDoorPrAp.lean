import Derived.Test.YtjdmogljfdffeaaGreatDoorPrAl
import Derived.Lib.OthersKept
set_option linter.all false
def Go.Lib.OthersKept.j:=@Go.Lib.OthersKept.trans
def Go.Lib.OthersKept.I:=@Go.Lib.OthersKept.grown
