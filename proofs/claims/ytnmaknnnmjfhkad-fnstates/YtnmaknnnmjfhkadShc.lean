import Derived.Shelf.Small.Strs
import Derived.Test.YtnmaknnnmjfhkadProg
namespace Go.Proofs.Ytnmaknnnmjfhkad
open Go.Shelf
/-- Where this program has what the contract of strings.Compare speaks of. -/
def cRen : Go.Shelf.Ren := ⟨fun | 106 => 122 | 213 => 137 | 265 => 140 | n => n, fun | 9 => 9 | 3 => 3 | n => n, fun | n => n⟩
theorem cLays106 : Go.Proofs.Lays.n106 Try.prog cRen := {
  mixed := by kernel_rfl
  f106 := Try.func122.trans (congrArg some (by kernel_rfl))
  f213 := Try.func137.trans (congrArg some (by kernel_rfl))
  f265 := Try.func140.trans (congrArg some (by kernel_rfl))
  t3 := Try.underlying3
  a3 := Try.isAgg3
  z3 := Try.sizeOf3
  v3 := Try.zeroValue3
  t9 := Try.underlying9
  a9 := Try.isAgg9
  z9 := Try.sizeOf9
  v9 := Try.zeroValue9 }
/-- How two texts stand to each other. -/
def cmpB (a b : ByteArray) : Int := Lib.compareBytes a.data.toList b.data.toList
open Go.RowKit in
theorem compare_i (a b : ByteArray) (w : World) : Calls Try.prog 122 #[.string a, .string b] w fun e w' => e = .returned (.int .i64 (cmpB a b)) ∧ w' = w := Any.strings_Compare cLays106 a b w
end Go.Proofs.Ytnmaknnnmjfhkad
