import Derived.Test.YtnmaknnnmjfhkaeDoorProg
import Derived.Test.YtnmaknnnmjfhkaeDoorQxScanFill
import Derived.Laws.BytesArg
import Derived.Laws.IdiomStrings
namespace Go.Proofs.YtnmaknnnmjfhkaeDoor
open Go.RowKit
set_option maxRecDepth 4000
set_option linter.unusedVariables false
set_option linter.unusedSimpArgs false
theorem heap_new (w : World) (o : Obj) : (w.alloc o).heap[w.heap.size]? = some o := by
  show (w.heap.push o)[w.heap.size]? = some o
  simp
theorem frozen_new (w : World) (C : Array Value) (e : TypeId) (n i : Nat) (h : i < n) : (w.alloc (.cells C e (n, n + 1))).frozen? ⟨w.heap.size, i, none⟩ = false := by
  simp only [World.frozen?, heap_new]
  simp
  omega
theorem cell_newf (w : World) (C : Array Value) (e : TypeId) (fr : Nat × Nat) (i : Nat) : (w.alloc (.cells C e fr)).cell? ⟨w.heap.size, i, none⟩ = C[i]? := by
  simp only [World.cell?, heap_new]
  simp
theorem conv_bytes (w : World) (p : ByteArray) : ∃ cap wB, (convert 9 22 (.string p)).run Tryd.prog w = .ok (.slice (some ⟨w.heap.size, 0, none⟩) p.size cap) wB ∧ Below w.heap.size w wB ∧ wB.heap.size = w.heap.size + 1 ∧ Fm wB w.heap.size (nums p) ∧ p.size ≤ cap := by
  refine ⟨_, _, run_bytes_of_string w _ _ 5 p Tryd.underlying9 Tryd.underlying22 Tryd.underlying5, ((Below.refl _ _).drew).alloc (Nat.le_refl _) _, by simp, ⟨fun i hi => ?_, fun i hi => ?_⟩, grownCap_ge _ _ _ _⟩
  · rw [nums_length] at hi
    refine (cell_newf w.drew _ _ _ i).trans ?_
    rw [bytesRow_at p _ i hi]
    have hl : i < p.data.toList.length := hi
    simp only [List.getD_eq_getElem?_getD, nums, List.getElem?_map, List.getElem?_eq_getElem hl]
    rfl
  · rw [nums_length] at hi
    exact frozen_new w.drew _ _ _ i (by unfold bytesRow; simp; omega)
/-- A text out of bytes that lie there. -/
theorem bytes_back (w : World) (b c : Nat) (xs : List Int) (h : Fm w b xs) : (convert 22 9 (.slice (some ⟨b, 0, none⟩) xs.length c)).run Tryd.prog w = .ok (.string (strOfNums xs)) w :=
  run_convert_bytes_arg (P := Tryd.prog) _ 22 5 Tryd.underlying22 Tryd.underlying5 b 0 xs.length c xs rfl (fun i hi => by
    rw [Nat.zero_add]
    exact h.cell i hi) 9 Tryd.underlying9
end Go.Proofs.YtnmaknnnmjfhkaeDoor
