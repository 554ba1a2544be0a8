import Derived.Test.YtpnblphoehgjhadDrv
import Derived.Test.YtpnblphoehgjhadMk
namespace Go.Proofs.Ytpnblphoehgjhad
open Go.RowKit
set_option linter.unusedVariables false

/-- A sector's cells, all zero. -/
def secZ : Value := .agg (Array.replicate 64 (.int .u8 0))
theorem infoSec : (Try.prog.info? 62).map (fun i => (i.zero, i.size, i.bytes)) = some (some secZ, 64, 64) := by kernel_rfl
theorem made_secs (n : Nat) : (madeCells secZ.cells (n * 64)).toList = List.replicate (n * 64) (.int .u8 0) := by
  unfold madeCells
  rw [Array.toList_map, Array.toList_range, List.eq_replicate_iff]
  refine ⟨by simp, fun b hb => ?_⟩
  obtain ⟨i, _, rfl⟩ := List.mem_map.1 hb
  have e1 : secZ.cells = Array.replicate 64 (.int .u8 0) := rfl
  have e2 : i % (Array.replicate 64 (Value.int .u8 0)).size < 64 := by rw [Array.size_replicate]; omega
  rw [e1]
  rw [getElem!_pos _ _ (by rw [Array.size_replicate] at e2 ⊢; exact e2)]
  simp
theorem plt_zero {w : World} {g : Nat} {n : Nat} (h : Row w g (List.replicate (n * 64) (.int .u8 0))) : Plt w (some ⟨g, 0, none⟩) (List.replicate n (List.replicate 64 0)) := by
  refine .inr ⟨g, 0, rfl, h.lt, fun i hi j v hv => ?_⟩
  rw [List.length_replicate] at hi
  have hg : (List.replicate n (List.replicate 64 (0 : Int))).getD i [] = List.replicate 64 0 := by rw [List.getD_eq_getElem?_getD, List.getElem?_replicate, if_pos hi]; rfl
  rw [hg, List.map_replicate, List.getElem?_replicate] at hv
  by_cases hj : j < 64
  · rw [if_pos hj] at hv
    cases hv
    rw [Nat.zero_add]
    exact h.cell _ _ (by rw [List.getElem?_replicate, if_pos (by omega)])
  · rw [if_neg hj] at hv; cases hv

theorem disk_i' (a : Option Addr) (ps : List (List Int)) (n c : Nat) (a' : Option Addr) (hs : List (Int × List Int)) (n' c' : Nat) (hn : ps.length = n) (hn' : hs.length = n') (w : World) (h : Plt w a ps) (h' : Hld w a' hs) (hl : n ≤ 200) (hl' : n' ≤ 300) (h64 : ∀ p ∈ ps, p.length = 64) (h64' : ∀ p ∈ hs, p.2.length = 64) :
    Calls Try.prog 31 #[diskV a n c a' n' c'] w fun e w' => ∃ a1 c1 a1' c1', e = .returned (diskV a1 n c1 a1' n' c1') ∧ OwnD w' a1 (secs ps) a1' (held hs) ∧ (∀ g, blk a1 n = some g → w.heap.size ≤ g) ∧ (∀ g, blk a1' n' = some g → w.heap.size ≤ g) ∧ Below w.heap.size w w' := by
  subst hn hn'
  refine (disk_i a ps c a' hs c' w h h' hl hl' h64 h64').mono ?_
  rintro e w' ⟨v, v', rfl, o1, o2, hap, hb⟩
  have l1 : (secs ps).length = ps.length := by simp [secs]
  have l2 : (held hs).length = hs.length := by simp [held]
  have f1 : ∃ a1 c1, v = .slice a1 ps.length c1 ∧ OwnS w' a1 ((secs ps).map Value.string) ∧ (∀ g, blk a1 ps.length = some g → w.heap.size ≤ g) ∧ (blk a1 ps.length = none ∨ blk a1 ps.length = v.ownBlock) := by
    rcases owns_forms o1 with ⟨e, h0⟩ | ⟨g, cap, e, h1, _, hr⟩
    · refine ⟨none, 0, by rw [h0]; exact e, .inl ?_, fun g hg => ?_, .inl ?_⟩
      · rw [List.eq_nil_of_length_eq_zero (l1.trans h0)]; rfl
      · rw [h0] at hg; cases hg
      · rw [h0]; rfl
    · refine ⟨_, cap, e, .inr ⟨g, rfl, hr⟩, fun g' hg => ?_, ?_⟩
      · unfold blk at hg; split at hg
        · cases hg
        · cases hg; exact h1
      · unfold blk; split
        · exact .inl rfl
        · right; rw [e]; rfl
  have f2 : ∃ a1 c1, v' = .slice a1 hs.length c1 ∧ OwnS w' a1 (wcells (held hs)) ∧ (∀ g, blk a1 hs.length = some g → w.heap.size ≤ g) ∧ (blk a1 hs.length = none ∨ blk a1 hs.length = v'.ownBlock) := by
    rcases owns_forms o2 with ⟨e, h0⟩ | ⟨g, cap, e, h1, _, hr⟩
    · refine ⟨none, 0, by rw [h0]; exact e, .inl ?_, fun g hg => ?_, .inl ?_⟩
      · rw [List.eq_nil_of_length_eq_zero (l2.trans h0)]; rfl
      · rw [h0] at hg; cases hg
      · rw [h0]; rfl
    · refine ⟨_, cap, e, .inr ⟨g, rfl, hr⟩, fun g' hg => ?_, ?_⟩
      · unfold blk at hg; split at hg
        · cases hg
        · cases hg; exact h1
      · unfold blk; split
        · exact .inl rfl
        · right; rw [e]; rfl
  obtain ⟨a1, c1, e1, g1, g2, g3⟩ := f1
  obtain ⟨a2, c2, e2, k1, k2, k3⟩ := f2
  refine ⟨a1, c1, a2, c2, by rw [e1, e2], ⟨g1, k1, ?_⟩, g2, k2, hb⟩
  rw [l1, l2]
  rcases g3 with g3 | g3
  · exact .inl g3
  · rcases k3 with k3 | k3
    · exact .inr (.inl k3)
    · rw [g3, k3]; exact hap

end Go.Proofs.Ytpnblphoehgjhad
