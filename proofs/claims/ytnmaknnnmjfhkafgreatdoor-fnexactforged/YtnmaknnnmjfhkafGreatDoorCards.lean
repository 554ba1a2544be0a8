/-
  DERIVED. GIVEN WITH THE SEED: THE CARDS: each row of YtnmaknnnmjfhkafGreatDoorRows.lean that lists a variable, with what it lists TIED to the program's text (the seventh form; the later family's looks); each row that meets fmt, with fmt's text TOLD by the authors' own Lean function (tested against real Go, not proved from fmt's source: count such statements apart). THE CARD IS WHAT COUNTS. Prove the row's statement (the work); the ties are given (YtnmaknnnmjfhkafGreatDoorTie.lean); close each card by the builder's one call (the guide's Derived/Test/ToyasCard.lean, 'card_holds'). Laid BY PROGRAM, IN A SANDBOX (cutbox-door.mjs). By AI agents, Wed Nov 11 2026. No macro, syntax, notation, axiom, sorry.
-/
import Derived.Test.YtnmaknnnmjfhkafGreatDoorRows
import GoSem.ClaimSeven
namespace Go.Proofs.YtnmaknnnmjfhkafGreatDoor
namespace Rows

/-- THE TIED CARD OF 'laws.FnExactForged'. -/
def fnExactForgedCard : Claim7 := { stood := { row := fnExactForgedRow, standIns := [], harness := (true, "e336cf0e044583c4b81333f0fa8e62558f85d6bc4736d8c398a6688e9a597479"), looks := true }, kinds := [], alts := [], laidByText := true, laidKinds := [.handle, .sentinel], laidTests := true, laidLooks := .later }
def FnExactForgedCardSaid : Prop := Claim7.holds Tryz.pinned (.plain (OpenSpec.ofChange fnExactForgedSpec)) fnExactForgedCard

/-- THE TIED CARD OF 'laws.FnRoots'. -/
def fnRootsCard : Claim7 := { stood := { row := fnRootsRow, standIns := [], harness := (true, "e336cf0e044583c4b81333f0fa8e62558f85d6bc4736d8c398a6688e9a597479"), looks := true }, kinds := [], alts := [], laidByText := true, laidKinds := [.handle, .sentinel], laidTests := true, laidLooks := .later }
def FnRootsCardSaid : Prop := Claim7.holds Tryz.pinned (.plain (OpenSpec.ofChange fnRootsSpec)) fnRootsCard

/-- THE TIED CARD OF 'laws.FnForged'. -/
def fnForgedCard : Claim7 := { stood := { row := fnForgedRow, standIns := [], harness := (true, "e336cf0e044583c4b81333f0fa8e62558f85d6bc4736d8c398a6688e9a597479"), looks := true }, kinds := [], alts := [], laidByText := true, laidKinds := [.handle, .sentinel], laidTests := true, laidLooks := .later }
def FnForgedCardSaid : Prop := Claim7.holds Tryz.pinned (.plain (OpenSpec.ofChange fnForgedSpec)) fnForgedCard

/-- THE SECOND FORM's CARD OF 'laws.FnExactForged'. -/
def fnExactForgedUptoCard : Claim7 := { stood := { row := fnExactForgedUptoRow, standIns := [], harness := (true, "e336cf0e044583c4b81333f0fa8e62558f85d6bc4736d8c398a6688e9a597479"), looks := true }, kinds := [], alts := [], laidByText := true, laidKinds := [.handle, .sentinel], laidTests := true, laidLooks := .later }
def FnExactForgedUptoCardSaid : Prop := Claim7.holds Tryz.pinned (.plain (OpenSpec.upto fnExactForgedSpec)) fnExactForgedUptoCard

/-- THE SECOND FORM's CARD OF 'laws.FnRoots'. -/
def fnRootsUptoCard : Claim7 := { stood := { row := fnRootsUptoRow, standIns := [], harness := (true, "e336cf0e044583c4b81333f0fa8e62558f85d6bc4736d8c398a6688e9a597479"), looks := true }, kinds := [], alts := [], laidByText := true, laidKinds := [.handle, .sentinel], laidTests := true, laidLooks := .later }
def FnRootsUptoCardSaid : Prop := Claim7.holds Tryz.pinned (.plain (OpenSpec.upto fnRootsSpec)) fnRootsUptoCard

/-- THE SECOND FORM's CARD OF 'laws.FnForged'. -/
def fnForgedUptoCard : Claim7 := { stood := { row := fnForgedUptoRow, standIns := [], harness := (true, "e336cf0e044583c4b81333f0fa8e62558f85d6bc4736d8c398a6688e9a597479"), looks := true }, kinds := [], alts := [], laidByText := true, laidKinds := [.handle, .sentinel], laidTests := true, laidLooks := .later }
def FnForgedUptoCardSaid : Prop := Claim7.holds Tryz.pinned (.plain (OpenSpec.upto fnForgedSpec)) fnForgedUptoCard
end Rows
end Go.Proofs.YtnmaknnnmjfhkafGreatDoor
