/-
  DERIVED. GIVEN WITH THE SEED: THE CARDS: each row of YtcoegjnjjdndjaaGreatDoorRows.lean that lists a variable, with what it lists TIED to the program's text (the seventh form; the later family's looks); each row that meets fmt, with fmt's text TOLD by the authors' own Lean function (tested against real Go, not proved from fmt's source: count such statements apart). THE CARD IS WHAT COUNTS. Prove the row's statement (the work); the ties are given (YtcoegjnjjdndjaaGreatDoorTie.lean); close each card by the builder's one call (the guide's Derived/Test/ToyasCard.lean, 'card_holds'). Laid BY PROGRAM, IN A SANDBOX (cutbox-door.mjs). By AI agents, Wed Nov 11 2026. No macro, syntax, notation, axiom, sorry.
-/
import Derived.Test.YtcoegjnjjdndjaaGreatDoorRows
import GoSem.ClaimSeven
namespace Go.Proofs.YtcoegjnjjdndjaaGreatDoor
namespace Rows

/-- THE TIED CARD OF 'laws.FnExactFound'. -/
def fnExactFoundCard : Claim7 := { stood := { row := fnExactFoundRow, standIns := [], harness := (true, "a1ea0ac8ae3e0562ceea91cc1d15ec27011d806db8b58ac96b96be9d6fa3a9e5"), looks := true }, kinds := [], alts := [], laidByText := true, laidKinds := [.handle, .sentinel], laidTests := true, laidLooks := .later }
def FnExactFoundCardSaid : Prop := Claim7.holds Tryz.pinned (.plain (OpenSpec.ofChange fnExactFoundSpec)) fnExactFoundCard

/-- THE SECOND FORM's CARD OF 'laws.FnExactFound'. -/
def fnExactFoundUptoCard : Claim7 := { stood := { row := fnExactFoundUptoRow, standIns := [], harness := (true, "a1ea0ac8ae3e0562ceea91cc1d15ec27011d806db8b58ac96b96be9d6fa3a9e5"), looks := true }, kinds := [], alts := [], laidByText := true, laidKinds := [.handle, .sentinel], laidTests := true, laidLooks := .later }
def FnExactFoundUptoCardSaid : Prop := Claim7.holds Tryz.pinned (.plain (OpenSpec.upto fnExactFoundSpec)) fnExactFoundUptoCard
end Rows
end Go.Proofs.YtcoegjnjjdndjaaGreatDoor
