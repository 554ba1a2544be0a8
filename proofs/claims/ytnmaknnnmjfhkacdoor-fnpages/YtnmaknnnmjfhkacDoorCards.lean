/-
  DERIVED. GIVEN WITH THE SEED: THE CARDS: each row of YtnmaknnnmjfhkacDoorRows.lean that lists a variable, with what it lists TIED to the program's text (the seventh form; the later family's looks); each row that meets fmt, with fmt's text TOLD by the authors' own Lean function (tested against real Go, not proved from fmt's source: count such statements apart). THE CARD IS WHAT COUNTS. Prove the row's statement (the work); the ties are given (YtnmaknnnmjfhkacDoorTie.lean); close each card by the builder's one call (the guide's Derived/Test/ToyasCard.lean, 'card_holds'). Laid BY PROGRAM, IN A SANDBOX (cutbox-door.mjs). By AI agents, Wed Nov 11 2026. No macro, syntax, notation, axiom, sorry.
-/
import Derived.Test.YtnmaknnnmjfhkacDoorRows
import GoSem.ClaimSeven
namespace Go.Proofs.YtnmaknnnmjfhkacDoor
namespace Rows

/-- THE TIED CARD OF 'laws.FnExactReadPage'. -/
def fnExactReadPageCard : Claim7 := { stood := { row := fnExactReadPageRow, standIns := [], harness := (true, "195ca3bff0005ff4dd3d512135acee1fbdee76f9cd45b56b9f92df6ae7917629"), looks := true }, kinds := [], alts := [], laidByText := true, laidKinds := [.handle, .sentinel], laidTests := true, laidLooks := .later }
def FnExactReadPageCardSaid : Prop := Claim7.holds Tryd.pinned (.plain (OpenSpec.ofChange fnExactReadPageSpec)) fnExactReadPageCard

/-- THE TIED CARD OF 'laws.FnPages'. -/
def fnPagesCard : Claim7 := { stood := { row := fnPagesRow, standIns := [], harness := (true, "195ca3bff0005ff4dd3d512135acee1fbdee76f9cd45b56b9f92df6ae7917629"), looks := true }, kinds := [], alts := [], laidByText := true, laidKinds := [.handle, .sentinel], laidTests := true, laidLooks := .later }
def FnPagesCardSaid : Prop := Claim7.holds Tryd.pinned (.plain (OpenSpec.ofChange fnPagesSpec)) fnPagesCard

/-- THE SECOND FORM's CARD OF 'laws.FnExactReadPage'. -/
def fnExactReadPageUptoCard : Claim7 := { stood := { row := fnExactReadPageUptoRow, standIns := [], harness := (true, "195ca3bff0005ff4dd3d512135acee1fbdee76f9cd45b56b9f92df6ae7917629"), looks := true }, kinds := [], alts := [], laidByText := true, laidKinds := [.handle, .sentinel], laidTests := true, laidLooks := .later }
def FnExactReadPageUptoCardSaid : Prop := Claim7.holds Tryd.pinned (.plain (OpenSpec.upto fnExactReadPageSpec)) fnExactReadPageUptoCard

/-- THE SECOND FORM's CARD OF 'laws.FnPages'. -/
def fnPagesUptoCard : Claim7 := { stood := { row := fnPagesUptoRow, standIns := [], harness := (true, "195ca3bff0005ff4dd3d512135acee1fbdee76f9cd45b56b9f92df6ae7917629"), looks := true }, kinds := [], alts := [], laidByText := true, laidKinds := [.handle, .sentinel], laidTests := true, laidLooks := .later }
def FnPagesUptoCardSaid : Prop := Claim7.holds Tryd.pinned (.plain (OpenSpec.upto fnPagesSpec)) fnPagesUptoCard
end Rows
end Go.Proofs.YtnmaknnnmjfhkacDoor
