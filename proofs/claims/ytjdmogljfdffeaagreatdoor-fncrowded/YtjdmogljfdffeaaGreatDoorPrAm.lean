import Derived.Test.YtjdmogljfdffeaaGreatDoorPrAl
import Derived.Deep.RegionHeld
set_option linter.all false
def Go.Shut.l:=@Go.Shut.out
namespace Go.Proofs.YtjdmogljfdffeaaGreatDoor
open Go.RowKit
def AN:=@Go.wp_region_held_drew
def AP:=@Go.World.cell?_setCell_far
def AS:=@Go.wpList_load_mid
def AY:=@Go.AllReadyH.cons
def BI:=@Go.wpList_store_mid
def DE:=@Go.AllReadyH.nil
def DH:=@Go.wpAnyH_ready
def DY:=@Go.World.rangeAt_setCells_same
def GA:=@Go.all_oneCell_toArray
def IT:=@Go.run_loadVar_mid
