import Derived.Test.YtnmaknnnmjfhkafGreatDoorMgXForged0
namespace Go.Proofs.YtnmaknnnmjfhkafGreatDoor
open Go.RowKit
set_option linter.unusedVariables false

/-- A store as a value. -/
def storeV (W S L T H F R U O : Int) (a : Option Addr) (n c : Nat) : Value := .agg #[.int .i64 W, .int .i64 S, .int .i64 L, .int .i64 T, .int .i64 H, .int .i64 F, .int .i64 R, .int .i64 U, .int .i64 O, .slice a n c]
end Go.Proofs.YtnmaknnnmjfhkafGreatDoor
