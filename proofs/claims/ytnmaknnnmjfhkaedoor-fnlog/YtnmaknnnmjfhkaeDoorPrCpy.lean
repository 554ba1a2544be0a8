import Derived.Deep.AppendSrc
import Derived.Test.YtnmaknnnmjfhkaeDoorPrG33
import Derived.Test.YtnmaknnnmjfhkaeDoorPrG27
namespace Go.Proofs.YtnmaknnnmjfhkaeDoor
open Go.RowKit
set_option linter.unusedVariables false
def cval (w : World) (p : Addr) : Value := (w.cell? p).getD (.int .i64 0)
theorem cval_some {w : World} {p : Addr} (h : (w.cell? p).isSome = true) : w.cell? p = some (cval w p) := by
  unfold cval
  cases e : w.cell? p with
  | none => rw [e] at h; exact absurd h (by simp)
  | some v => rfl
theorem cval_is {w : World} {p : Addr} {v : Value} (h : w.cell? p = some v) : (w.cell? p).isSome = true := by rw [h]; rfl
def KeepC (wy : World) (X : Nat) (v0 v1 : Value) (w : World) : Prop :=
  w.cell? ⟨X, 0, none⟩ = some v0 ∧ w.cell? ⟨X, 1, none⟩ = some v1 ∧ w.cell? ⟨X + 1, 0, none⟩ = some (cval w ⟨X + 1, 0, none⟩) ∧ w.cell? ⟨X + 1, 1, none⟩ = some (cval w ⟨X + 1, 1, none⟩) ∧ w.frozen? ⟨X + 1, 0, none⟩ = false ∧ w.frozen? ⟨X + 1, 1, none⟩ = false ∧ wy.grownBy w (some (X + 1)) ∧ X + 1 < w.heap.size
theorem KeepC.below {wy w w' : World} {X : Nat} {v0 v1 : Value} (h : KeepC wy X v0 v1 w) (hb : Below w.heap.size w w') : KeepC wy X v0 v1 w' := by
  obtain ⟨h1, h2, h3, h4, h5, h6, h7, h8⟩ := h
  refine ⟨(hb.cell (p := ⟨X, 0, none⟩) (by show X < _; omega)).trans h1, (hb.cell (p := ⟨X, 1, none⟩) (by show X < _; omega)).trans h2, ?_, ?_, ?_, ?_, ⟨hb.os.trans h7.os, hb.tape.trans h7.tape, hb.output.trans h7.output, Nat.le_trans h7.size hb.size, fun i hi hne => (hb.block i (Nat.lt_of_lt_of_le hi h7.size)).trans (h7.block i hi hne)⟩, Nat.lt_of_lt_of_le h8 hb.size⟩
  · exact cval_some (by rw [hb.cell (p := ⟨X + 1, 0, none⟩) h8]; exact cval_is h3)
  · exact cval_some (by rw [hb.cell (p := ⟨X + 1, 1, none⟩) h8]; exact cval_is h4)
  · rw [hb.frozen (p := ⟨X + 1, 0, none⟩) h8]; exact h5
  · rw [hb.frozen (p := ⟨X + 1, 1, none⟩) h8]; exact h6
theorem KeepC.set {wy w : World} {X : Nat} {v0 v1 : Value} (h : KeepC wy X v0 v1 w) (j : Nat) (v : Value) : KeepC wy X v0 v1 (w.setCell ⟨X + 1, j, none⟩ v) := by
  obtain ⟨h1, h2, h3, h4, h5, h6, h7, h8⟩ := h
  have hs : ∀ p, (w.cell? p).isSome = true → ((w.setCell ⟨X + 1, j, none⟩ v).cell? p).isSome = true := fun p hp => by
    by_cases e : (⟨X + 1, j, none⟩ : Addr) = p
    · subst e
      obtain ⟨u, hu⟩ := Option.isSome_iff_exists.1 hp
      rw [World.cell?_setCell_same (w := w) (h := hu)]; rfl
    · rw [World.cell?_setCell_other (w := w) (h := e)]; exact hp
  refine ⟨(World.cell?_setCell_far _ _ _ _ (by show X + 1 ≠ X; omega)).trans h1, (World.cell?_setCell_far _ _ _ _ (by show X + 1 ≠ X; omega)).trans h2, cval_some (hs _ (cval_is h3)), cval_some (hs _ (cval_is h4)), by rw [World.frozen?_setCell]; exact h5, by rw [World.frozen?_setCell]; exact h6, ⟨(setCells_os (X + 1) [v] j w).1.trans h7.os, (setCells_os (X + 1) [v] j w).2.1.trans h7.tape, (setCells_os (X + 1) [v] j w).2.2.trans h7.output, by simpa using h7.size, fun i hi hne => ?_⟩, by simpa using h8⟩
  rw [← h7.block i hi hne]
  exact setCells_other (X + 1) [v] j w i (fun e => hne (by rw [e]))
end Go.Proofs.YtnmaknnnmjfhkaeDoor
