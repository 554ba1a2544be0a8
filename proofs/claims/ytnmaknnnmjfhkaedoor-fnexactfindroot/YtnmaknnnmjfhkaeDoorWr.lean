import Derived.Test.YtnmaknnnmjfhkaeDoorPlain
namespace Go.Proofs.YtnmaknnnmjfhkaeDoor
/-- A goal in a box. -/
structure Wr (p : Prop) : Prop where
  out : p
end Go.Proofs.YtnmaknnnmjfhkaeDoor
