import Derived.Test.YtnmaknnnmjfhkafGreatProg
import Derived.Test.YtnmaknnnmjfhkafGreatStp
import Derived.WalkKit
import Derived.WalkSpells
import Derived.Test.YtnmaknnnmjfhkafGreatDsk
namespace Go.Proofs.YtnmaknnnmjfhkafGreat
open Go.RowKit
set_option maxRecDepth 4000
set_option linter.unusedVariables false

theorem edit_i0 (k v : ByteArray) (w : World) : Calls Tryz.prog 86 #[.agg #[.string k, .string v, .bool false]] w fun e w' => e = .returned (.iface 144 (.agg #[.string k, .string v])) ∧ Below w.heap.size w w' := by
  go_enter Tryz.func86, Tryz.ntmps86
  go_wp2
  go_ret
  exact ⟨rfl, (Below.refl _ _).alloc (Nat.le_refl _) _⟩
theorem edit_i1 (k v : ByteArray) (w : World) : Calls Tryz.prog 86 #[.agg #[.string k, .string v, .bool true]] w fun e w' => e = .returned (.iface 142 (.agg #[.string k])) ∧ Below w.heap.size w w' := by
  go_enter Tryz.func86, Tryz.ntmps86
  go_wp2
  go_ret
  exact ⟨rfl, (Below.refl _ _).alloc (Nat.le_refl _) _⟩
end Go.Proofs.YtnmaknnnmjfhkafGreat
