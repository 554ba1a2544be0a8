import Derived.Test.YtnmaknnnmjfhkaeDoorPrG35
import Derived.Test.YtnmaknnnmjfhkaeDoorPrG32
namespace Go.Proofs.YtnmaknnnmjfhkaeDoor
open Go.RowKit
set_option maxRecDepth 4000
set_option linter.unusedVariables false
set_option linter.unusedSimpArgs false
def numOf (l : List Int) : Int := l.foldl (fun n x => n * 256 + x) 0
theorem ret_int' {k : IntKind} {a b : Int} (h : a = b) : Ending.returned (.int k a) = .returned (.int k b) := by rw [h]
theorem numOf_snoc (l : List Int) (x : Int) : numOf (l ++ [x]) = numOf l * 256 + x := by simp [numOf]
def rpK (b : ByteArray) : Int := ((b.data.toList.getD 0 0).toNat : Int)
def rpN (b : ByteArray) : Nat := (b.data.toList.getD 7 0).toNat
def rpL (b : ByteArray) : Int := numOf (nums (b.extract 1 3))
def rpM (b : ByteArray) : Int := numOf (nums (b.extract 3 7))
def rpP (b : ByteArray) : ByteArray := b.extract 8 (8 + rpN b)
def rpRes (s : ByteArray) (n : Int) : Option (Int × Int × Int × ByteArray) :=
  if 1 ≤ n ∧ n ≤ 8 ∧ s.size = 64 ∧ (rpN (s.extract n.toNat 64) : Int) ≤ 56 - n ∧ formOf (rpK (s.extract n.toNat 64)) (rpL (s.extract n.toNat 64)) (rpM (s.extract n.toNat 64)) (rpP (s.extract n.toNat 64)) n = s then
    some (rpK (s.extract n.toNat 64), rpL (s.extract n.toNat 64), rpM (s.extract n.toNat 64), rpP (s.extract n.toNat 64)) else none
theorem hid0 {p : Prop} (h : p) : Hid p := h
def rpV (o : Option (Int × Int × Int × ByteArray)) : Value := match o with
  | none => .tuple #[pageV 0 0 0 ⟨#[]⟩, .bool false]
  | some (k, l, m, p) => .tuple #[pageV k l m p, .bool true]
theorem rpRes_no {s : ByteArray} {n : Int} (h : ¬ (1 ≤ n ∧ n ≤ 8 ∧ s.size = 64 ∧ (rpN (s.extract n.toNat 64) : Int) ≤ 56 - n ∧ formOf (rpK (s.extract n.toNat 64)) (rpL (s.extract n.toNat 64)) (rpM (s.extract n.toNat 64)) (rpP (s.extract n.toNat 64)) n = s)) : rpRes s n = none := by unfold rpRes; exact if_neg h
end Go.Proofs.YtnmaknnnmjfhkaeDoor
