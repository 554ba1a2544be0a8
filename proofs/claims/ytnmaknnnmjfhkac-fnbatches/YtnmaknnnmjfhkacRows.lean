/-
  No cell of these rows narrows 'for every input' (looked for: loops, veiled, ifaces, maps, wideKeys, modest, calm, conditions, laid).
  DERIVED. THE GIVEN ROWS OF THIS SEAT. 4 by the template 'for every input the law returns true; each argument reads behind the call as it read before'; 0 by the template 'total and deterministic' (their statements: YtnmaknnnmjfhkacTotals.lean).
  GIVEN WITH THE SEED: the statements are not yours to turn. If you find one false, say at which input.
  Laid BY PROGRAM, IN A SANDBOX (cutbox-rows.mjs): the forced cells as the released guide's own fill.sh prints them over the translation edb3ba5b3f0f6dc7… (all of the seat's roots in one cut). By AI agents, Wed Nov 11 2026. No macro, syntax, notation, axiom, sorry.
-/
import Derived.Test.YtnmaknnnmjfhkacChecked
import GoSem.Claim
import GoSem.ClaimJoined
import GoSem.ClaimMapViews
import Derived.JoinedTies
import Derived.KernelRfl
namespace Go.Proofs.Ytnmaknnnmjfhkac
/- THE CELL 'sum', in the pinned program and in every row, IS THE sha256 OF THE DUMP (.gsa) THAT YtnmaknnnmjfhkacProg.lean LOADS. Nothing in Lean hashes anything: it is a label: what it is worth is what the hold of that sum in a sandbox is worth. -/
noncomputable def Try.pinned : Pinned := { name := "ytnmaknnnmjfhkac", sum := "edb3ba5b3f0f6dc7f7505bc59f6703672c69626d6919afb47016fdd01aad696f", checked := Try.checked }
namespace Rows
def none {H : Type} : Left H := { results := [], args := [] }

/-- 'laws.FnBatches': WHATEVER THE INPUT: true; the input reads as it did. -/
def fnBatchesSpec : ChangeSpec := { name := "fnBatches", fn := fun _ => fun
  | [d] => { results := [.lit (.bool true)], args := [d] }
  | _ => none }
def fnBatchesRow : OpenClaim := { program := "ytnmaknnnmjfhkac", sum := "edb3ba5b3f0f6dc7f7505bc59f6703672c69626d6919afb47016fdd01aad696f", func := "loop.example/kilnstone/laws.FnBatches", spec := "fnBatches", inPlace := ["internal/abi.NoEscape"], unfollowed := true, recurses := true, apart := false }
def FnBatchesSaid : Prop := fnBatchesRow.holds Try.pinned (OpenSpec.ofChange fnBatchesSpec)

/-- ITS FALSE NEIGHBOUR: 'it returns false'. Refute it at one input. -/
def fnBatchesWrong : ChangeSpec := { name := "fnBatches", fn := fun _ => fun
  | [d] => { results := [.lit (.bool false)], args := [d] }
  | _ => none }
def FnBatchesWrongFalsely : Prop := fnBatchesRow.holds Try.pinned (OpenSpec.ofChange fnBatchesWrong)

/-- 'laws.FnExactCut': WHATEVER THE INPUT: true; the input reads as it did. -/
def fnExactCutSpec : ChangeSpec := { name := "fnExactCut", fn := fun _ => fun
  | [d1, d2, d3, d4] => { results := [.lit (.bool true)], args := [d1, d2, d3, d4] }
  | _ => none }
def fnExactCutRow : OpenClaim := { program := "ytnmaknnnmjfhkac", sum := "edb3ba5b3f0f6dc7f7505bc59f6703672c69626d6919afb47016fdd01aad696f", func := "loop.example/kilnstone/laws.FnExactCut", spec := "fnExactCut", apart := false }
def FnExactCutSaid : Prop := fnExactCutRow.holds Try.pinned (OpenSpec.ofChange fnExactCutSpec)

/-- ITS FALSE NEIGHBOUR: 'it returns false'. Refute it at one input. -/
def fnExactCutWrong : ChangeSpec := { name := "fnExactCut", fn := fun _ => fun
  | [d1, d2, d3, d4] => { results := [.lit (.bool false)], args := [d1, d2, d3, d4] }
  | _ => none }
def FnExactCutWrongFalsely : Prop := fnExactCutRow.holds Try.pinned (OpenSpec.ofChange fnExactCutWrong)

/-- 'laws.FnExactSector': WHATEVER THE INPUT: true; the input reads as it did. -/
def fnExactSectorSpec : ChangeSpec := { name := "fnExactSector", fn := fun _ => fun
  | [d1, d2] => { results := [.lit (.bool true)], args := [d1, d2] }
  | _ => none }
def fnExactSectorRow : OpenClaim := { program := "ytnmaknnnmjfhkac", sum := "edb3ba5b3f0f6dc7f7505bc59f6703672c69626d6919afb47016fdd01aad696f", func := "loop.example/kilnstone/laws.FnExactSector", spec := "fnExactSector", unfollowed := true, recurses := true, apart := false }
def FnExactSectorSaid : Prop := fnExactSectorRow.holds Try.pinned (OpenSpec.ofChange fnExactSectorSpec)

/-- ITS FALSE NEIGHBOUR: 'it returns false'. Refute it at one input. -/
def fnExactSectorWrong : ChangeSpec := { name := "fnExactSector", fn := fun _ => fun
  | [d1, d2] => { results := [.lit (.bool false)], args := [d1, d2] }
  | _ => none }
def FnExactSectorWrongFalsely : Prop := fnExactSectorRow.holds Try.pinned (OpenSpec.ofChange fnExactSectorWrong)

/-- 'laws.FnExactSnapshot': WHATEVER THE INPUT: true; the input reads as it did. -/
def fnExactSnapshotSpec : ChangeSpec := { name := "fnExactSnapshot", fn := fun _ => fun
  | [d] => { results := [.lit (.bool true)], args := [d] }
  | _ => none }
def fnExactSnapshotRow : OpenClaim := { program := "ytnmaknnnmjfhkac", sum := "edb3ba5b3f0f6dc7f7505bc59f6703672c69626d6919afb47016fdd01aad696f", func := "loop.example/kilnstone/laws.FnExactSnapshot", spec := "fnExactSnapshot", unfollowed := true, recurses := true, apart := false }
def FnExactSnapshotSaid : Prop := fnExactSnapshotRow.holds Try.pinned (OpenSpec.ofChange fnExactSnapshotSpec)

/-- ITS FALSE NEIGHBOUR: 'it returns false'. Refute it at one input. -/
def fnExactSnapshotWrong : ChangeSpec := { name := "fnExactSnapshot", fn := fun _ => fun
  | [d] => { results := [.lit (.bool false)], args := [d] }
  | _ => none }
def FnExactSnapshotWrongFalsely : Prop := fnExactSnapshotRow.holds Try.pinned (OpenSpec.ofChange fnExactSnapshotWrong)

/- THE SECOND FORM. 'bulk': how many values and letters a reading holds, each counted each time it is reached (what is shared counts as often as it is met; a slice's spare places count too). A statement '..UptoSaid' is the law's where the arguments, and the package variables that the reading takes, are together of bulk at most 1048576: NARROWER than '..Said'. Prove '..Said' where nothing that the law and all that it calls make is longer than what came in: it says more and counts as full. Else prove '..UptoSaid'. A law counts once. -/
mutual
def uptoBulk {H : Type} : DataW H → Nat
  | .lit (.string bytes) => bytes.length + 1
  | .lit _ => 1
  | .nil => 1
  | .ptr d => uptoBulk d + 1
  | .slice elems spare => uptoBulkAll elems + uptoBulkAll spare + 1
  | .agg parts => uptoBulkAll parts + 1
  | .iface _ d => uptoBulk d + 1
  | .map entries => uptoBulkEntries entries + 1
  | .held _ => 1
def uptoBulkAll {H : Type} : List (DataW H) → Nat
  | [] => 0
  | d :: r => uptoBulk d + uptoBulkAll r
def uptoBulkEntries {H : Type} : List (Lit × DataW H) → Nat
  | [] => 0
  | x :: r => uptoBulkEntry x + uptoBulkEntries r
def uptoBulkEntry {H : Type} : Lit × DataW H → Nat
  | (.string bytes, d) => bytes.length + uptoBulk d + 1
  | (_, d) => uptoBulk d + 1
 end
def uptoSmall : (H : Type) → List (DataW H) → Bool := fun _ ds => decide (uptoBulkAll ds ≤ 1048576)
def OpenSpec.upto (s : _root_.Go.ChangeSpec) : _root_.Go.OpenSpec := { _root_.Go.OpenSpec.ofChange s with cond := some uptoSmall }

/-- 'laws.FnBatches', WHERE WHAT IT READS IS OF BULK AT MOST 1048576: true; the input reads as it did. -/
def fnBatchesUptoRow : OpenClaim := { program := "ytnmaknnnmjfhkac", sum := "edb3ba5b3f0f6dc7f7505bc59f6703672c69626d6919afb47016fdd01aad696f", func := "loop.example/kilnstone/laws.FnBatches", spec := "fnBatches", inPlace := ["internal/abi.NoEscape"], unfollowed := true, recurses := true, apart := false, narrowed := true }
def FnBatchesUptoSaid : Prop := fnBatchesUptoRow.holds Try.pinned (OpenSpec.upto fnBatchesSpec)

/-- 'laws.FnExactCut', WHERE WHAT IT READS IS OF BULK AT MOST 1048576: true; the input reads as it did. -/
def fnExactCutUptoRow : OpenClaim := { program := "ytnmaknnnmjfhkac", sum := "edb3ba5b3f0f6dc7f7505bc59f6703672c69626d6919afb47016fdd01aad696f", func := "loop.example/kilnstone/laws.FnExactCut", spec := "fnExactCut", apart := false, narrowed := true }
def FnExactCutUptoSaid : Prop := fnExactCutUptoRow.holds Try.pinned (OpenSpec.upto fnExactCutSpec)

/-- 'laws.FnExactSector', WHERE WHAT IT READS IS OF BULK AT MOST 1048576: true; the input reads as it did. -/
def fnExactSectorUptoRow : OpenClaim := { program := "ytnmaknnnmjfhkac", sum := "edb3ba5b3f0f6dc7f7505bc59f6703672c69626d6919afb47016fdd01aad696f", func := "loop.example/kilnstone/laws.FnExactSector", spec := "fnExactSector", unfollowed := true, recurses := true, apart := false, narrowed := true }
def FnExactSectorUptoSaid : Prop := fnExactSectorUptoRow.holds Try.pinned (OpenSpec.upto fnExactSectorSpec)

/-- 'laws.FnExactSnapshot', WHERE WHAT IT READS IS OF BULK AT MOST 1048576: true; the input reads as it did. -/
def fnExactSnapshotUptoRow : OpenClaim := { program := "ytnmaknnnmjfhkac", sum := "edb3ba5b3f0f6dc7f7505bc59f6703672c69626d6919afb47016fdd01aad696f", func := "loop.example/kilnstone/laws.FnExactSnapshot", spec := "fnExactSnapshot", unfollowed := true, recurses := true, apart := false, narrowed := true }
def FnExactSnapshotUptoSaid : Prop := fnExactSnapshotUptoRow.holds Try.pinned (OpenSpec.upto fnExactSnapshotSpec)

end Rows
end Go.Proofs.Ytnmaknnnmjfhkac
