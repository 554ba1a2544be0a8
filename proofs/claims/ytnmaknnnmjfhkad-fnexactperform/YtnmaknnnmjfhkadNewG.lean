import Derived.Test.YtnmaknnnmjfhkadTo
import Derived.Test.YtnmaknnnmjfhkadDsk
import Derived.Test.YtnmaknnnmjfhkadStp
import Derived.Deep.RegionLaw
namespace Go.Proofs.Ytnmaknnnmjfhkad
open Go.RowKit
set_option linter.unusedVariables false

theorem made_one (z : Value) (hz : z.cells = #[z]) (n : Nat) : (madeCells z.cells (n * 1)).toList = List.replicate n z := by
  unfold madeCells
  rw [Nat.mul_one, Array.toList_map, Array.toList_range, List.eq_replicate_iff]
  refine ⟨by simp, fun b hb => ?_⟩
  obtain ⟨i, _, rfl⟩ := List.mem_map.1 hb
  rw [hz]
  have : i % (#[z] : Array Value).size = 0 := by simp [Nat.mod_one]
  rw [this]; rfl
theorem Dsk.start (w : World) (t1 t2 e e' : TypeId) : Dsk w ((w.alloc (.cells #[.slice none 0 0, .slice none 0 0] t1)).alloc (.cells #[.slice none 0 0, .slice none 0 0] t2)) w.heap.size (w.heap.size + 1) (w.heap.size + 1 + 1) e e' (.slice none 0 0) (.slice none 0 0) [] [] := by
  have hb : Below w.heap.size w ((w.alloc (.cells #[.slice none 0 0, .slice none 0 0] t1)).alloc (.cells #[.slice none 0 0, .slice none 0 0] t2)) := ((Below.refl _ _).alloc (Nat.le_refl _) _).alloc (by simp) _
  have r1 := (row_new w #[.slice none 0 0, .slice none 0 0] t1).alloc (.cells #[.slice none 0 0, .slice none 0 0] t2)
  have r2 := row_new (w.alloc (.cells #[.slice none 0 0, .slice none 0 0] t1)) #[.slice none 0 0, .slice none 0 0] t2
  simp only [World.size_alloc] at r2
  exact ⟨Nat.le_refl _, by omega, by omega, by omega, by omega, by simp, hb, r1.cell 0 _ rfl, r1.cell 1 _ rfl, r1.froz 0 (by simp), r1.froz 1 (by simp), r2.cell 0 _ rfl, r2.cell 1 _ rfl, r2.froz 0 (by simp), r2.froz 1 (by simp), World.ownsRow_nil _ _ _ _, World.ownsRow_nil _ _ _ _, .inl rfl⟩

theorem info_parts' {P : Program} {e : TypeId} {z : Value} {size bytes : Nat} (h : (P.info? e).map (fun i => (i.zero, i.size, i.bytes)) = some (some z, size, bytes)) : ∃ i, P.info? e = some i ∧ i.zero = some z ∧ i.size = size ∧ i.bytes = bytes := by
  obtain ⟨i, hi, hh⟩ := Option.map_eq_some_iff.1 h
  simp only [Prod.mk.injEq] at hh
  exact ⟨i, hi, hh⟩

end Go.Proofs.Ytnmaknnnmjfhkad
