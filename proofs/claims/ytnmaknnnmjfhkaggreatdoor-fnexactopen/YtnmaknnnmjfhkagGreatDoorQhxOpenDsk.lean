import Derived.Test.YtnmaknnnmjfhkagGreatDoorMhXOpen0
import Derived.Deep.AppendLies
import Derived.OneCell
namespace Go.Proofs.YtnmaknnnmjfhkagGreatDoor
open Go.RowKit

theorem owns_below {w w' : World} {base : Nat} {e : TypeId} {size : Nat} {v : Value} {n : Nat} {xs : List Value} (h : w.ownsRow base e size v n xs) (hb : Below w.heap.size w w') : w'.ownsRow base e size v n xs := by
  refine ⟨h.1, ?_⟩
  rcases h.2 with h0 | ⟨g, cap, cur, h1, h2, h3, h4⟩
  · exact .inl h0
  · refine .inr ⟨g, cap, cur, h1, h2, ?_, h4⟩
    have hlt : g < w.heap.size := by
      rcases Nat.lt_or_ge g w.heap.size with h | h
      · exact h
      · rw [Array.getElem?_eq_none h] at h3; cases h3
    rw [hb.block g hlt]; exact h3
theorem owns_row {w : World} {base : Nat} {e : TypeId} {size : Nat} {g n cap : Nat} {xs : List Value} (h : w.ownsRow base e size (.slice (some ⟨g, 0, none⟩) n cap) n xs) : Row w g xs := by
  have hl := (h.lt g rfl).2
  refine ⟨hl, fun i v hv => ?_, fun i hi => ?_⟩
  · have := h.cells (g := g) rfl i v hv
    have ha : (⟨g, 0, none⟩ : Addr).add i = ⟨g, i, none⟩ := by unfold Addr.add; split <;> simp_all
    rwa [ha] at this
  · rcases h.2 with ⟨h0, _⟩ | ⟨g', cap', cur, h1, _, h3, _⟩
    · cases h0
    · simp at h1
      rw [← h1.1] at h3
      simp [World.frozen?, h3]
theorem owns_forms {w : World} {base : Nat} {e : TypeId} {size : Nat} {v : Value} {n : Nat} {xs : List Value} (h : w.ownsRow base e size v n xs) : (v = .slice none 0 0 ∧ n = 0) ∨ ∃ g cap, v = .slice (some ⟨g, 0, none⟩) n cap ∧ base ≤ g ∧ g < w.heap.size ∧ Row w g xs := by
  rcases h.2 with h0 | ⟨g, cap, cur, h1, h2, h3, h4⟩
  · exact .inl h0
  · subst h1
    exact .inr ⟨g, cap, rfl, h2, (h.lt g rfl).2, owns_row h⟩

/-- A disk that is being made in a variable of two slices, and the answer's block ahead of it: what they hold. -/
structure Dsk (W w : World) (R D base : Nat) (e e' : TypeId) (v v' : Value) (ss : List ByteArray) (ws : List (Int × ByteArray)) : Prop where
  hR : W.heap.size ≤ R
  hR' : R < base
  hD : W.heap.size ≤ D
  hD' : D < base
  ne : R ≠ D
  sz : base ≤ w.heap.size
  bel : Below W.heap.size W w
  r0 : w.cell? ⟨R, 0, none⟩ = some (.slice none 0 0)
  r1 : w.cell? ⟨R, 1, none⟩ = some (.slice none 0 0)
  fr0 : w.frozen? ⟨R, 0, none⟩ = false
  fr1 : w.frozen? ⟨R, 1, none⟩ = false
  d0 : w.cell? ⟨D, 0, none⟩ = some v
  d1 : w.cell? ⟨D, 1, none⟩ = some v'
  fd0 : w.frozen? ⟨D, 0, none⟩ = false
  fd1 : w.frozen? ⟨D, 1, none⟩ = false
  own : w.ownsRow base e 1 v ss.length (ss.map Value.string)
  own' : w.ownsRow base e' 2 v' ws.length (wcells ws)
  apart : v.ownBlock = none ∨ v'.ownBlock = none ∨ v.ownBlock ≠ v'.ownBlock
section
variable {W w w' : World} {R D base : Nat} {e e' : TypeId} {v v' : Value} {ss : List ByteArray} {ws : List (Int × ByteArray)}
theorem Dsk.below (h : Dsk W w R D base e e' v v' ss ws) (hb : Below w.heap.size w w') : Dsk W w' R D base e e' v v' ss ws :=
  have lR : R < w.heap.size := Nat.lt_of_lt_of_le h.hR' h.sz
  have lD : D < w.heap.size := Nat.lt_of_lt_of_le h.hD' h.sz
  have lW : W.heap.size ≤ w.heap.size := h.bel.size
  ⟨h.hR, h.hR', h.hD, h.hD', h.ne, Nat.le_trans h.sz hb.size, h.bel.trans (hb.mono lW), (hb.cell (p := ⟨R, 0, none⟩) lR).trans h.r0, (hb.cell (p := ⟨R, 1, none⟩) lR).trans h.r1, (hb.frozen (p := ⟨R, 0, none⟩) lR).trans h.fr0, (hb.frozen (p := ⟨R, 1, none⟩) lR).trans h.fr1,
    (hb.cell (p := ⟨D, 0, none⟩) lD).trans h.d0, (hb.cell (p := ⟨D, 1, none⟩) lD).trans h.d1, (hb.frozen (p := ⟨D, 0, none⟩) lD).trans h.fd0, (hb.frozen (p := ⟨D, 1, none⟩) lD).trans h.fd1, owns_below h.own hb, owns_below h.own' hb, h.apart⟩
theorem Dsk.drew (h : Dsk W w R D base e e' v v' ss ws) : Dsk W w.drew R D base e e' v v' ss ws := h.below ((Below.refl _ _).drew)
theorem Dsk.alloc (h : Dsk W w R D base e e' v v' ss ws) (o : Obj) : Dsk W (w.alloc o) R D base e e' v v' ss ws := h.below ((Below.refl _ _).alloc (Nat.le_refl _) _)
/-- Behind an append to the first list, stored back. -/
theorem Dsk.push (h : Dsk W w R D base e e' v v' ss ws) {w1 : World} {g cap H : Nat} {s : ByteArray} (hown : w1.ownsRow base e 1 (.slice (some ⟨g, 0, none⟩) (ss.length + 1) cap) (ss.length + 1) (ss.map Value.string ++ [.string s])) (hg : w.grownBy w1 v.ownBlock) (hat : v.ownBlock = some g ∨ g = H) (hH : w.heap.size = H) :
    Dsk W (w1.setCell ⟨D, 0, none⟩ (.slice (some ⟨g, 0, none⟩) (ss.length + 1) cap)) R D base e e' (.slice (some ⟨g, 0, none⟩) (ss.length + 1) cap) v' (ss ++ [s]) ws := by
  have lR : R < w.heap.size := Nat.lt_of_lt_of_le h.hR' h.sz
  have lD : D < w.heap.size := Nat.lt_of_lt_of_le h.hD' h.sz
  have lW : W.heap.size ≤ w.heap.size := h.bel.size
  have nb : ∀ k, k < base → some k ≠ v.ownBlock := fun k hk he => by have := (h.own.lt k he.symm).1; omega
  have cR : ∀ i, w1.cell? ⟨R, i, none⟩ = w.cell? ⟨R, i, none⟩ := fun i => hg.cell_far ⟨R, i, none⟩ lR (nb R h.hR')
  have cD : ∀ i, w1.cell? ⟨D, i, none⟩ = w.cell? ⟨D, i, none⟩ := fun i => hg.cell_far ⟨D, i, none⟩ lD (nb D h.hD')
  have fR : ∀ i, w1.frozen? ⟨R, i, none⟩ = w.frozen? ⟨R, i, none⟩ := fun i => hg.frozen_far ⟨R, i, none⟩ lR (nb R h.hR')
  have fD : ∀ i, w1.frozen? ⟨D, i, none⟩ = w.frozen? ⟨D, i, none⟩ := fun i => hg.frozen_far ⟨D, i, none⟩ lD (nb D h.hD')
  have gb : base ≤ g := (hown.lt g rfl).1
  have hbel : Below W.heap.size W w1 := h.bel.trans ⟨hg.os, hg.tape, hg.output, hg.size, fun k hk => hg.block k (by omega) (nb k (by have := h.hR; have := h.hR'; omega))⟩
  have ap : v'.ownBlock = none ∨ (Value.slice (some ⟨g, 0, none⟩) (ss.length + 1) cap).ownBlock ≠ v'.ownBlock := by
    cases hv' : v'.ownBlock with
    | none => exact .inl rfl
    | some g' =>
      refine .inr fun he => ?_
      have hgg : g = g' := by simpa [Value.ownBlock] using he
      have lt' := (h.own'.lt g' hv').2
      rcases hat with h1 | h1
      · rcases h.apart with h2 | h2 | h2
        · rw [h1] at h2; cases h2
        · rw [hv'] at h2; cases h2
        · rw [h1, hv', hgg] at h2; exact h2 rfl
      · omega
  refine ⟨h.hR, h.hR', h.hD, h.hD', h.ne, ?_, hbel.setCell h.hD _, ?_, ?_, ?_, ?_, ?_, ?_, ?_, ?_, ?_, ?_, ?_⟩
  · have := hg.size; have := h.sz; simp only [World.size_setCell]; omega
  · rw [World.cell?_setCell_other (w := w1) (h := show (⟨D, 0, none⟩ : Addr) ≠ ⟨R, 0, none⟩ from fun he => h.ne (by injection he with h1; exact h1.symm)), cR]; exact h.r0
  · rw [World.cell?_setCell_other (w := w1) (h := show (⟨D, 0, none⟩ : Addr) ≠ ⟨R, 1, none⟩ from fun he => h.ne (by injection he with h1; exact h1.symm)), cR]; exact h.r1
  · rw [World.frozen?_setCell, fR]; exact h.fr0
  · rw [World.frozen?_setCell, fR]; exact h.fr1
  · exact World.cell?_setCell_same w1 _ _ ((cD 0).trans h.d0)
  · rw [World.cell?_setCell_other (w := w1) (h := show (⟨D, 0, none⟩ : Addr) ≠ ⟨D, 1, none⟩ by simp), cD]; exact h.d1
  · rw [World.frozen?_setCell, fD]; exact h.fd0
  · rw [World.frozen?_setCell, fD]; exact h.fd1
  · have := ownsRow_setCell_below hown (a := ⟨D, 0, none⟩) h.hD' (.slice (some ⟨g, 0, none⟩) (ss.length + 1) cap)
    simpa using this
  · have k1 : w1.ownsRow base e' 2 v' ws.length (wcells ws) := h.own'.kept hg (by
      rcases h.apart with h2 | h2 | h2
      · cases hv' : v'.ownBlock with
        | none => exact .inl rfl
        | some _ => rw [h2]; exact .inr (by simp)
      · exact .inl h2
      · exact .inr (fun he => h2 he.symm))
    exact ownsRow_setCell_below k1 (a := ⟨D, 0, none⟩) h.hD' _
  · exact .inr ap
/-- Behind an append to the second list, stored back. -/
theorem Dsk.push2 (h : Dsk W w R D base e e' v v' ss ws) {w1 : World} {g cap H : Nat} {x : Int × ByteArray} (hown : w1.ownsRow base e' 2 (.slice (some ⟨g, 0, none⟩) (ws.length + 1) cap) (ws.length + 1) (wcells ws ++ [.int .i64 x.1, .string x.2])) (hg : w.grownBy w1 v'.ownBlock) (hat : v'.ownBlock = some g ∨ g = H) (hH : w.heap.size = H) :
    Dsk W (w1.setCell ⟨D, 1, none⟩ (.slice (some ⟨g, 0, none⟩) (ws.length + 1) cap)) R D base e e' v (.slice (some ⟨g, 0, none⟩) (ws.length + 1) cap) ss (ws ++ [x]) := by
  have lR : R < w.heap.size := Nat.lt_of_lt_of_le h.hR' h.sz
  have lD : D < w.heap.size := Nat.lt_of_lt_of_le h.hD' h.sz
  have lW : W.heap.size ≤ w.heap.size := h.bel.size
  have nb : ∀ k, k < base → some k ≠ v'.ownBlock := fun k hk he => by have := (h.own'.lt k he.symm).1; omega
  have cR : ∀ i, w1.cell? ⟨R, i, none⟩ = w.cell? ⟨R, i, none⟩ := fun i => hg.cell_far ⟨R, i, none⟩ lR (nb R h.hR')
  have cD : ∀ i, w1.cell? ⟨D, i, none⟩ = w.cell? ⟨D, i, none⟩ := fun i => hg.cell_far ⟨D, i, none⟩ lD (nb D h.hD')
  have fR : ∀ i, w1.frozen? ⟨R, i, none⟩ = w.frozen? ⟨R, i, none⟩ := fun i => hg.frozen_far ⟨R, i, none⟩ lR (nb R h.hR')
  have fD : ∀ i, w1.frozen? ⟨D, i, none⟩ = w.frozen? ⟨D, i, none⟩ := fun i => hg.frozen_far ⟨D, i, none⟩ lD (nb D h.hD')
  have gb : base ≤ g := (hown.lt g rfl).1
  have hbel : Below W.heap.size W w1 := h.bel.trans ⟨hg.os, hg.tape, hg.output, hg.size, fun k hk => hg.block k (by omega) (nb k (by have := h.hR; have := h.hR'; omega))⟩
  have ap : v.ownBlock = none ∨ v.ownBlock ≠ (Value.slice (some ⟨g, 0, none⟩) (ws.length + 1) cap).ownBlock := by
    cases hv : v.ownBlock with
    | none => exact .inl rfl
    | some g' =>
      refine .inr fun he => ?_
      have hgg : g' = g := by simpa [Value.ownBlock] using he
      have lt' := (h.own.lt g' hv).2
      rcases hat with h1 | h1
      · rcases h.apart with h2 | h2 | h2
        · rw [hv] at h2; cases h2
        · rw [h1] at h2; cases h2
        · rw [h1, hv, hgg] at h2; exact h2 rfl
      · omega
  refine ⟨h.hR, h.hR', h.hD, h.hD', h.ne, ?_, hbel.setCell h.hD _, ?_, ?_, ?_, ?_, ?_, ?_, ?_, ?_, ?_, ?_, ?_⟩
  · have := hg.size; have := h.sz; simp only [World.size_setCell]; omega
  · rw [World.cell?_setCell_other (w := w1) (h := show (⟨D, 1, none⟩ : Addr) ≠ ⟨R, 0, none⟩ from fun he => h.ne (by injection he with h1; exact h1.symm)), cR]; exact h.r0
  · rw [World.cell?_setCell_other (w := w1) (h := show (⟨D, 1, none⟩ : Addr) ≠ ⟨R, 1, none⟩ from fun he => h.ne (by injection he with h1; exact h1.symm)), cR]; exact h.r1
  · rw [World.frozen?_setCell, fR]; exact h.fr0
  · rw [World.frozen?_setCell, fR]; exact h.fr1
  · rw [World.cell?_setCell_other (w := w1) (h := show (⟨D, 1, none⟩ : Addr) ≠ ⟨D, 0, none⟩ by simp), cD]; exact h.d0
  · exact World.cell?_setCell_same w1 _ _ ((cD 1).trans h.d1)
  · rw [World.frozen?_setCell, fD]; exact h.fd0
  · rw [World.frozen?_setCell, fD]; exact h.fd1
  · have k1 : w1.ownsRow base e 1 v ss.length (ss.map Value.string) := h.own.kept hg (by
      rcases h.apart with h2 | h2 | h2
      · exact .inl h2
      · cases hv : v.ownBlock with
        | none => exact .inl rfl
        | some _ => rw [h2]; exact .inr (by simp)
      · exact .inr h2)
    exact ownsRow_setCell_below k1 (a := ⟨D, 1, none⟩) h.hD' _
  · have := ownsRow_setCell_below hown (a := ⟨D, 1, none⟩) h.hD' (.slice (some ⟨g, 0, none⟩) (ws.length + 1) cap)
    rw [List.length_append, wcells_append]
    exact this
  · rcases ap with h1 | h1
    · exact .inl h1
    · exact .inr (.inr h1)
theorem Dsk.grown {w1 : World} (h : Dsk W w R D base e e' v v' ss ws) (hg : w.grownBy w1 v.ownBlock) : w1.cell? ⟨D, 0, none⟩ = some v ∧ w1.frozen? ⟨D, 0, none⟩ = false := by
  have lD : D < w.heap.size := Nat.lt_of_lt_of_le h.hD' h.sz
  have nb : some D ≠ v.ownBlock := fun he => by have := (h.own.lt D he.symm).1; have := h.hD'; omega
  exact ⟨(hg.cell_far ⟨D, 0, none⟩ lD nb).trans h.d0, (hg.frozen_far ⟨D, 0, none⟩ lD nb).trans h.fd0⟩
theorem Dsk.grown2 {w1 : World} (h : Dsk W w R D base e e' v v' ss ws) (hg : w.grownBy w1 v'.ownBlock) : w1.cell? ⟨D, 1, none⟩ = some v' ∧ w1.frozen? ⟨D, 1, none⟩ = false := by
  have lD : D < w.heap.size := Nat.lt_of_lt_of_le h.hD' h.sz
  have nb : some D ≠ v'.ownBlock := fun he => by have := (h.own'.lt D he.symm).1; have := h.hD'; omega
  exact ⟨(hg.cell_far ⟨D, 1, none⟩ lD nb).trans h.d1, (hg.frozen_far ⟨D, 1, none⟩ lD nb).trans h.fd1⟩
end
end Go.Proofs.YtnmaknnnmjfhkagGreatDoor
