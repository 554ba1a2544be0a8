import Derived.Test.YtnmaknnnmjfhkacPr
import Derived.Test.YtnmaknnnmjfhkacOpn
import Derived.ChangeSlices
import Derived.OpenShut
namespace Go.Proofs.Ytnmaknnnmjfhkac
open Go.RowKit Go.ChangeShapes Go.WideShapes Go.Deep
set_option linter.unusedVariables false
set_option linter.unusedSimpArgs false
section
variable {H : Type} {enc : TypeId × Value → H} {P : Program} {w : World} {base : Nat} {spare : Nat → Bool} {held : Bool}
/-- A code that came in: its bytes. -/
theorem bys_of_trod {t e : TypeId} {fuel : Nat} {v : Value} {x : DataW H × List MemPlace} (ht : P.underlying t = some (.slice e)) (he : P.underlying e = some (.int .u8)) (hc : P.cellsOf e = 1)
    (h : DataW.trod enc P w base spare held fuel t [v] = some x) : ∃ a n c, v = .slice a n c ∧ Bys w a n ∧ n ≤ c ∧ n ≤ maxLen := by
  rcases open_ints ht he hc h with ⟨hcs, _⟩ | ⟨a, len, cap, zs, hcs, _, hl, hm, hz, _, hcell, hwz⟩
  · simp at hcs
    exact ⟨none, 0, 0, by simpa using hcs, ⟨0, 0, .inl rfl, fun i hi => absurd hi (by omega)⟩, Nat.le_refl _, Nat.zero_le _⟩
  · simp at hcs
    have hlen : len ≤ zs.length := by rw [hz]; split <;> omega
    refine ⟨some a, len, cap, hcs, ?_, hl, by omega⟩
    by_cases h0 : len = 0
    · subst h0
      exact ⟨0, 0, .inl rfl, fun i hi => absurd hi (by omega)⟩
    · obtain ⟨b, o, rfl⟩ := add_none (hcell 0 (by omega)) ⟨_, hcell 0 (by omega)⟩
      have hb := World.block_lt_of_cell? w _ (hcell 0 (by omega))
      rw [add_mk] at hb
      refine ⟨b, o, .inr rfl, fun i hi => ⟨hb, zs.getD i 0, ?_, ?_⟩⟩
      · have := hcell i (by omega)
        rwa [add_mk] at this
      · rw [List.getD_eq_getElem?_getD]
        exact range_u8 hwz i
end
end Go.Proofs.Ytnmaknnnmjfhkac
