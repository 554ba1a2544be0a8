import Derived.Test.YthcfgbpailnahaaGreatDoorPrAl
import Derived.Deep.RegionHeld
set_option linter.all false
def Go.Shut.o:=@Go.Shut.out
namespace Go.Proofs.YthcfgbpailnahaaGreatDoor
open Go.RowKit
def AN:=@Go.wpList_load_mid
def AP:=@Go.wp_region_held_drew
def BI:=@Go.wpList_store_mid
def CY:=@Go.AllReadyH.cons
def DE:=@Go.World.cell?_setCell_far
def DS:=@Go.World.rangeAt_setCells_same
def EX:=@Go.AllReadyH.nil
def EZ:=@Go.wpAnyH_ready
def FQ:=@Go.all_oneCell_toArray
def JB:=@Go.run_loadVar_mid
