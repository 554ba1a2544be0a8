import Derived.Test.YtnmaknnnmjfhkadDrv
import Derived.Test.YtnmaknnnmjfhkadDrv2B
import Derived.Test.YtnmaknnnmjfhkadMk
namespace Go.Proofs.Ytnmaknnnmjfhkad
open Go.RowKit
set_option maxRecDepth 4000
set_option linter.unusedVariables false

theorem disk_i' (a : Option Addr) (ps : List (List Int)) (n c : Nat) (a' : Option Addr) (hs : List (Int × List Int)) (n' c' : Nat) (hn : ps.length = n) (hn' : hs.length = n') (w : World) (h : Plt w a ps) (h' : Hld w a' hs) (hl : n ≤ 200) (hl' : n' ≤ 300) (h64 : ∀ p ∈ ps, p.length = 64) (h64' : ∀ p ∈ hs, p.2.length = 64) :
    Calls Try.prog 86 #[diskV a n c a' n' c'] w fun e w' => ∃ a1 c1 a1' c1', e = .returned (diskV a1 n c1 a1' n' c1') ∧ OwnD w' a1 (secs ps) a1' (held hs) ∧ (∀ g, blk a1 n = some g → w.heap.size ≤ g) ∧ (∀ g, blk a1' n' = some g → w.heap.size ≤ g) ∧ Below w.heap.size w w' := by
  subst hn hn'
  refine (disk_i a ps c a' hs c' w h h' hl hl' h64 h64').mono ?_
  rintro e w' ⟨v, v', rfl, o1, o2, hap, hb⟩
  have l1 : (secs ps).length = ps.length := by simp [secs]
  have l2 : (held hs).length = hs.length := by simp [held]
  have f1 : ∃ a1 c1, v = .slice a1 ps.length c1 ∧ OwnS w' a1 ((secs ps).map Value.string) ∧ (∀ g, blk a1 ps.length = some g → w.heap.size ≤ g) ∧ (blk a1 ps.length = none ∨ blk a1 ps.length = v.ownBlock) := by
    rcases owns_forms o1 with ⟨e, h0⟩ | ⟨g, cap, e, h1, _, hr⟩
    · refine ⟨none, 0, by rw [h0]; exact e, .inl ?_, fun g hg => ?_, .inl ?_⟩
      · rw [List.eq_nil_of_length_eq_zero (l1.trans h0)]; rfl
      · rw [h0] at hg; cases hg
      · rw [h0]; rfl
    · refine ⟨_, cap, e, .inr ⟨g, rfl, hr⟩, fun g' hg => ?_, ?_⟩
      · unfold blk at hg; split at hg
        · cases hg
        · cases hg; exact h1
      · unfold blk; split
        · exact .inl rfl
        · right; rw [e]; rfl
  have f2 : ∃ a1 c1, v' = .slice a1 hs.length c1 ∧ OwnS w' a1 (wcells (held hs)) ∧ (∀ g, blk a1 hs.length = some g → w.heap.size ≤ g) ∧ (blk a1 hs.length = none ∨ blk a1 hs.length = v'.ownBlock) := by
    rcases owns_forms o2 with ⟨e, h0⟩ | ⟨g, cap, e, h1, _, hr⟩
    · refine ⟨none, 0, by rw [h0]; exact e, .inl ?_, fun g hg => ?_, .inl ?_⟩
      · rw [List.eq_nil_of_length_eq_zero (l2.trans h0)]; rfl
      · rw [h0] at hg; cases hg
      · rw [h0]; rfl
    · refine ⟨_, cap, e, .inr ⟨g, rfl, hr⟩, fun g' hg => ?_, ?_⟩
      · unfold blk at hg; split at hg
        · cases hg
        · cases hg; exact h1
      · unfold blk; split
        · exact .inl rfl
        · right; rw [e]; rfl
  obtain ⟨a1, c1, e1, g1, g2, g3⟩ := f1
  obtain ⟨a2, c2, e2, k1, k2, k3⟩ := f2
  refine ⟨a1, c1, a2, c2, by rw [e1, e2], ⟨g1, k1, ?_⟩, g2, k2, hb⟩
  rw [l1, l2]
  rcases g3 with g3 | g3
  · exact .inl g3
  · rcases k3 with k3 | k3
    · exact .inr (.inl k3)
    · rw [g3, k3]; exact hap

end Go.Proofs.Ytnmaknnnmjfhkad
