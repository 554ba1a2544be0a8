import Derived.Test.YtbjeomlpcdaieaeDoorPlain
namespace Go.Proofs.YtbjeomlpcdaieaeDoor
/-- A goal in a box. -/
structure Wr (p : Prop) : Prop where
  out : p
end Go.Proofs.YtbjeomlpcdaieaeDoor
