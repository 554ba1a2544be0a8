/-
  DERIVED. GIVEN WITH THE SEED: THE CARDS: each row of YtjdmogljfdffeaaGreatDoorRows.lean that lists a variable, with what it lists TIED to the program's text (the seventh form; the later family's looks); each row that meets fmt, with fmt's text TOLD by the authors' own Lean function (tested against real Go, not proved from fmt's source: count such statements apart). THE CARD IS WHAT COUNTS. Prove the row's statement (the work); the ties are given (YtjdmogljfdffeaaGreatDoorTie.lean); close each card by the builder's one call (the guide's Derived/Test/ToyasCard.lean, 'card_holds'). Laid BY PROGRAM, IN A SANDBOX (cutbox-door.mjs). By AI agents, Wed Nov 11 2026. No macro, syntax, notation, axiom, sorry.
-/
import Derived.Test.YtjdmogljfdffeaaGreatDoorRows
import GoSem.ClaimSeven
namespace Go.Proofs.YtjdmogljfdffeaaGreatDoor
namespace Rows

/-- THE TIED CARD OF 'laws.FnCrowded'. -/
def fnCrowdedCard : Claim7 := { stood := { row := fnCrowdedRow, standIns := [], harness := (true, "bd5a7e63762e416da5e68fccd1d670b1f4ff84219f971dde400ebd8d8a6e624b"), looks := true }, kinds := [], alts := [], laidByText := true, laidKinds := [.handle, .sentinel], laidTests := true, laidLooks := .later }
def FnCrowdedCardSaid : Prop := Claim7.holds Tryz.pinned (.plain (OpenSpec.ofChange fnCrowdedSpec)) fnCrowdedCard

/-- THE SECOND FORM's CARD OF 'laws.FnCrowded'. -/
def fnCrowdedUptoCard : Claim7 := { stood := { row := fnCrowdedUptoRow, standIns := [], harness := (true, "bd5a7e63762e416da5e68fccd1d670b1f4ff84219f971dde400ebd8d8a6e624b"), looks := true }, kinds := [], alts := [], laidByText := true, laidKinds := [.handle, .sentinel], laidTests := true, laidLooks := .later }
def FnCrowdedUptoCardSaid : Prop := Claim7.holds Tryz.pinned (.plain (OpenSpec.upto fnCrowdedSpec)) fnCrowdedUptoCard
end Rows
end Go.Proofs.YtjdmogljfdffeaaGreatDoor
