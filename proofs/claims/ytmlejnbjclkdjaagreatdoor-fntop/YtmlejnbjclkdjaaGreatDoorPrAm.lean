import Derived.Test.YtmlejnbjclkdjaaGreatDoorPrAl
import Derived.Deep.RegionHeld
set_option linter.all false
def Go.Shut.l:=@Go.Shut.out
namespace Go.Proofs.YtmlejnbjclkdjaaGreatDoor
open Go.RowKit
def AN:=@Go.wp_region_held_drew
def AS:=@Go.wpList_load_mid
def BI:=@Go.wpList_store_mid
def BK:=@Go.AllReadyH.cons
def DC:=@Go.World.cell?_setCell_far
def DX:=@Go.AllReadyH.nil
def EF:=@Go.wpAnyH_ready
def EG:=@Go.World.rangeAt_setCells_same
def GH:=@Go.all_oneCell_toArray
def JA:=@Go.run_loadVar_mid
