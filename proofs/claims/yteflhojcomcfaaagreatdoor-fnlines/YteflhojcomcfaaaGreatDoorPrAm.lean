import Derived.Test.YteflhojcomcfaaaGreatDoorPrAl
import Derived.Deep.RegionHeld
set_option linter.all false
def Go.Shut.j:=@Go.Shut.out
namespace Go.Proofs.YteflhojcomcfaaaGreatDoor
open Go.RowKit
def AN:=@Go.wp_region_held_drew
def BE:=@Go.wpList_load_mid
def BV:=@Go.wpList_store_mid
def DA:=@Go.AllReadyH.cons
def DF:=@Go.World.cell?_setCell_far
def EG:=@Go.World.rangeAt_setCells_same
def EQ:=@Go.AllReadyH.nil
def EU:=@Go.wpAnyH_ready
def GH:=@Go.all_oneCell_toArray
def JE:=@Go.run_loadVar_mid
