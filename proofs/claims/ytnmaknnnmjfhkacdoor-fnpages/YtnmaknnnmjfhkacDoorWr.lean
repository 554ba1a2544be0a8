import Derived.Test.YtnmaknnnmjfhkacDoorPlain
namespace Go.Proofs.YtnmaknnnmjfhkacDoor
/-- A goal in a box. -/
structure Wr (p : Prop) : Prop where
  out : p
end Go.Proofs.YtnmaknnnmjfhkacDoor
