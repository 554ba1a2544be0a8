import Derived.Test.YtnmaknnnmjfhkaeProg
import Derived.Test.YtnmaknnnmjfhkaeStp
import Derived.WalkKit
import Derived.WalkSpells
import Derived.Test.YtnmaknnnmjfhkaeDsk
namespace Go.Proofs.Ytnmaknnnmjfhkae
open Go.RowKit
set_option maxRecDepth 4000
set_option linter.unusedVariables false

theorem edit_i0 (k v : ByteArray) (w : World) : Calls Try.prog 102 #[.agg #[.string k, .string v, .bool false]] w fun e w' => e = .returned (.iface 153 (.agg #[.string k, .string v])) ∧ Below w.heap.size w w' := by
  go_enter Try.func102, Try.ntmps102
  go_wp2
  go_ret
  exact ⟨rfl, (Below.refl _ _).alloc (Nat.le_refl _) _⟩
theorem edit_i1 (k v : ByteArray) (w : World) : Calls Try.prog 102 #[.agg #[.string k, .string v, .bool true]] w fun e w' => e = .returned (.iface 151 (.agg #[.string k])) ∧ Below w.heap.size w w' := by
  go_enter Try.func102, Try.ntmps102
  go_wp2
  go_ret
  exact ⟨rfl, (Below.refl _ _).alloc (Nat.le_refl _) _⟩
end Go.Proofs.Ytnmaknnnmjfhkae
