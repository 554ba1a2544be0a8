import Derived.Test.YtnmaknnnmjfhkacRbWa
import Derived.Test.YtnmaknnnmjfhkacRbWb
import Derived.Test.YtnmaknnnmjfhkacRbWc
import Derived.Test.YtnmaknnnmjfhkacRbWd
import Derived.Test.YtnmaknnnmjfhkacRbWe
namespace Go.Proofs.Ytnmaknnnmjfhkac
open Go.RowKit
set_option maxRecDepth 4000
set_option linter.unusedVariables false
set_option linter.unusedSimpArgs false

theorem pc_size {r k m : ByteArray} (h : pc r = some (k, m)) : m.size ≤ r.size := by
  have := congrArg List.length (pc_some h).1
  simp [nums_length] at this
  omega
theorem change_i (r : ByteArray) (w : World) (hs : r.size ≤ 1048576) (h0 : 0 < r.size) : Calls Try.prog 43 #[.string r] w fun e w' => chgPost (stpV r) e ∧ Below w.heap.size w w' := by
  unfold stpV
  by_cases hb : 1 < b0 r
  · rw [if_pos hb]; exact change_bad r w hs h0 hb
  · rw [if_neg hb]
    unfold stp
    cases hp : pc (r.extract 1 r.size) with
    | none =>
      rcases Nat.eq_zero_or_pos (b0 r) with h1 | h1
      · exact change_sn r w hs h0 h1 hp
      · exact change_gn r w hs h0 (by omega) hp
    | some p =>
      obtain ⟨k, m⟩ := p
      have hmz : m.size ≤ 1048576 := by have := pc_size hp; simp only [ByteArray.size_extract] at this; omega
      rcases Nat.eq_zero_or_pos (b0 r) with h1 | h1
      · simp only
        rw [if_neg (by omega)]
        cases hq : pc m with
        | none => exact change_ssn r w hs h0 h1 k m hp hmz hq
        | some q =>
          obtain ⟨v, m'⟩ := q
          exact change_s r w hs h0 h1 k m hp hmz v m' hq
      · simp only
        rw [if_pos (by omega)]
        exact change_g r w hs h0 (by omega) k m hp
end Go.Proofs.Ytnmaknnnmjfhkac
