import Derived.Test.YtkdedmclofhndaaGreatDoorPrAl
import Derived.Deep.RegionHeld
set_option linter.all false
def Go.Shut.j:=@Go.Shut.out
namespace Go.Proofs.YtkdedmclofhndaaGreatDoor
open Go.RowKit
def AN:=@Go.wp_region_held_drew
def AZ:=@Go.wpList_load_mid
def BU:=@Go.wpList_store_mid
def DC:=@Go.AllReadyH.cons
def DR:=@Go.World.cell?_setCell_far
def EE:=@Go.World.rangeAt_setCells_same
def EP:=@Go.AllReadyH.nil
def ET:=@Go.wpAnyH_ready
def GH:=@Go.all_oneCell_toArray
def JE:=@Go.run_loadVar_mid
