import Derived.Test.YtnmaknnnmjfhkadProg
import Derived.Test.YtnmaknnnmjfhkadStp
import Derived.WalkKit
import Derived.WalkSpells
import Derived.Test.YtnmaknnnmjfhkadDsk
namespace Go.Proofs.Ytnmaknnnmjfhkad
open Go.RowKit
set_option maxRecDepth 4000
set_option linter.unusedVariables false

theorem edit_i0 (k v : ByteArray) (w : World) : Calls Try.prog 66 #[.agg #[.string k, .string v, .bool false]] w fun e w' => e = .returned (.iface 181 (.agg #[.string k, .string v])) ∧ Below w.heap.size w w' := by
  go_enter Try.func66, Try.ntmps66
  go_wp2
  go_ret
  exact ⟨rfl, (Below.refl _ _).alloc (Nat.le_refl _) _⟩
theorem edit_i1 (k v : ByteArray) (w : World) : Calls Try.prog 66 #[.agg #[.string k, .string v, .bool true]] w fun e w' => e = .returned (.iface 179 (.agg #[.string k])) ∧ Below w.heap.size w w' := by
  go_enter Try.func66, Try.ntmps66
  go_wp2
  go_ret
  exact ⟨rfl, (Below.refl _ _).alloc (Nat.le_refl _) _⟩
end Go.Proofs.Ytnmaknnnmjfhkad
