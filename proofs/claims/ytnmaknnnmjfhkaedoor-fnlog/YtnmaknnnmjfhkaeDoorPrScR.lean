import Derived.Test.YtnmaknnnmjfhkaeDoorPrScE
import Derived.Test.YtnmaknnnmjfhkaeDoorPrG46
namespace Go.Proofs.YtnmaknnnmjfhkaeDoor
open Go.RowKit
set_option maxRecDepth 4000
set_option linter.unusedVariables false
set_option linter.unusedSimpArgs false
@[reducible] def scV (a : Option Addr) (n c : Nat) (u l : Int) : Value := .agg #[.slice a n c, .int .i64 u, .int .i64 l]
theorem scpost_own {w w' : World} {e : Ending} {x : Scd} (h : ScPost w w' e x) : ∃ a c, e = .returned (scV a x.1.length c x.2.1 x.2.2) ∧ OwnS w' a (x.1.map Value.string) ∧ (∀ g, blk a x.1.length = some g → w.heap.size ≤ g) ∧ Below w.heap.size w w' := by
  obtain ⟨y, rfl, ho, hb⟩ := h
  rcases owns_forms ho with ⟨e1, e2⟩ | ⟨g, cap, e1, h1, h2, hr⟩
  · subst e1
    have : x.1 = [] := List.eq_nil_of_length_eq_zero e2
    exact ⟨none, 0, by rw [e2], .inl (by rw [this]; rfl), fun g hg => (by rw [e2] at hg; cases hg), hb⟩
  · subst e1
    refine ⟨_, cap, rfl, .inr ⟨g, rfl, hr⟩, fun g' hg => ?_, hb⟩
    have := blk_is hg
    omega
end Go.Proofs.YtnmaknnnmjfhkaeDoor
