import Derived.Test.YtnmaknnnmjfhkacProg
import Derived.Test.YtnmaknnnmjfhkacStp
import Derived.WalkKit
import Derived.WalkSpells
import Derived.Test.YtnmaknnnmjfhkacDsk
namespace Go.Proofs.Ytnmaknnnmjfhkac
open Go.RowKit
set_option maxRecDepth 4000
set_option linter.unusedVariables false

theorem edit_i0 (k v : ByteArray) (w : World) : Calls Try.prog 40 #[.agg #[.string k, .string v, .bool false]] w fun e w' => e = .returned (.iface 133 (.agg #[.string k, .string v])) ∧ Below w.heap.size w w' := by
  go_enter Try.func40, Try.ntmps40
  go_wp2
  go_ret
  exact ⟨rfl, (Below.refl _ _).alloc (Nat.le_refl _) _⟩
theorem edit_i1 (k v : ByteArray) (w : World) : Calls Try.prog 40 #[.agg #[.string k, .string v, .bool true]] w fun e w' => e = .returned (.iface 131 (.agg #[.string k])) ∧ Below w.heap.size w w' := by
  go_enter Try.func40, Try.ntmps40
  go_wp2
  go_ret
  exact ⟨rfl, (Below.refl _ _).alloc (Nat.le_refl _) _⟩
end Go.Proofs.Ytnmaknnnmjfhkac
