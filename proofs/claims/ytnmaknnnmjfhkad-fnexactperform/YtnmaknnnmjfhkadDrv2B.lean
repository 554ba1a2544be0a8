import Derived.Test.YtnmaknnnmjfhkadDrvB
import Derived.Test.YtnmaknnnmjfhkadMkB
namespace Go.Proofs.Ytnmaknnnmjfhkad
open Go.RowKit
set_option maxRecDepth 4000
set_option linter.unusedVariables false

/-- A sector's cells, all zero. -/
def secZ : Value := .agg (Array.replicate 64 (.int .u8 0))
theorem infoSec : (Try.prog.info? 140).map (fun i => (i.zero, i.size, i.bytes)) = some (some secZ, 64, 64) := by kernel_rfl
theorem made_secs (n : Nat) : (madeCells secZ.cells (n * 64)).toList = List.replicate (n * 64) (.int .u8 0) := by
  unfold madeCells
  rw [Array.toList_map, Array.toList_range, List.eq_replicate_iff]
  refine ⟨by simp, fun b hb => ?_⟩
  obtain ⟨i, _, rfl⟩ := List.mem_map.1 hb
  have e1 : secZ.cells = Array.replicate 64 (.int .u8 0) := rfl
  have e2 : i % (Array.replicate 64 (Value.int .u8 0)).size < 64 := by rw [Array.size_replicate]; omega
  rw [e1]
  rw [getElem!_pos _ _ (by rw [Array.size_replicate] at e2 ⊢; exact e2)]
  simp
theorem plt_zero {w : World} {g : Nat} {n : Nat} (h : Row w g (List.replicate (n * 64) (.int .u8 0))) : Plt w (some ⟨g, 0, none⟩) (List.replicate n (List.replicate 64 0)) := by
  refine .inr ⟨g, 0, rfl, h.lt, fun i hi j v hv => ?_⟩
  rw [List.length_replicate] at hi
  have hg : (List.replicate n (List.replicate 64 (0 : Int))).getD i [] = List.replicate 64 0 := by rw [List.getD_eq_getElem?_getD, List.getElem?_replicate, if_pos hi]; rfl
  rw [hg, List.map_replicate, List.getElem?_replicate] at hv
  by_cases hj : j < 64
  · rw [if_pos hj] at hv
    cases hv
    rw [Nat.zero_add]
    exact h.cell _ _ (by rw [List.getElem?_replicate, if_pos (by omega)])
  · rw [if_neg hj] at hv; cases hv
end Go.Proofs.Ytnmaknnnmjfhkad
