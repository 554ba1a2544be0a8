import Derived.Deep.RegionHeld
import Derived.Test.YtnmaknnnmjfhkaeDoorPrRt
import Derived.Test.YtnmaknnnmjfhkaeDoorPrG32
import Derived.Test.YtnmaknnnmjfhkaeDoorPrFbS
import Derived.Test.YtnmaknnnmjfhkaeDoorPrG26
set_option maxHeartbeats 16000000
set_option maxRecDepth 8000
namespace Go.Proofs.YtnmaknnnmjfhkaeDoor
open Go.RowKit
set_option maxRecDepth 4000
set_option linter.unusedVariables false
set_option linter.unusedSimpArgs false
structure B4 (w : World) (B : Nat) (v0 v1 v2 v3 : Value) : Prop where
  lt : B < w.heap.size
  c0 : w.cell? ⟨B, 0, none⟩ = some v0
  c1 : w.cell? ⟨B, 1, none⟩ = some v1
  c2 : w.cell? ⟨B, 2, none⟩ = some v2
  c3 : w.cell? ⟨B, 3, none⟩ = some v3
  f0 : w.frozen? ⟨B, 0, none⟩ = false
  f1 : w.frozen? ⟨B, 1, none⟩ = false
  f2 : w.frozen? ⟨B, 2, none⟩ = false
  f3 : w.frozen? ⟨B, 3, none⟩ = false
section
variable {w w' : World} {B : Nat} {v0 v1 v2 v3 : Value}
theorem B4.past (h : B4 w B v0 v1 v2 v3) {N : Nat} (hN : B < N) (hb : Below N w w') : B4 w' B v0 v1 v2 v3 := by
  have hc : ∀ i, w'.cell? ⟨B, i, none⟩ = w.cell? ⟨B, i, none⟩ := fun i => hb.cell (p := ⟨B, i, none⟩) hN
  have hf : ∀ i, w'.frozen? ⟨B, i, none⟩ = w.frozen? ⟨B, i, none⟩ := fun i => hb.frozen (p := ⟨B, i, none⟩) hN
  exact ⟨Nat.lt_of_lt_of_le h.lt hb.size, (hc _).trans h.c0, (hc _).trans h.c1, (hc _).trans h.c2, (hc _).trans h.c3, (hf _).trans h.f0, (hf _).trans h.f1, (hf _).trans h.f2, (hf _).trans h.f3⟩
theorem B4.below (h : B4 w B v0 v1 v2 v3) (hb : Below w.heap.size w w') : B4 w' B v0 v1 v2 v3 := h.past h.lt hb
theorem B4.drew (h : B4 w B v0 v1 v2 v3) : B4 w.drew B v0 v1 v2 v3 := ⟨h.lt, h.c0, h.c1, h.c2, h.c3, h.f0, h.f1, h.f2, h.f3⟩
theorem B4.alloc (h : B4 w B v0 v1 v2 v3) (o : Obj) : B4 (w.alloc o) B v0 v1 v2 v3 := h.below ((Below.refl _ _).alloc (Nat.le_refl _) _)
theorem B4.new (w : World) (v0 v1 v2 v3 : Value) (t : TypeId) : B4 (w.alloc (.cells #[v0, v1, v2, v3] t)) w.heap.size v0 v1 v2 v3 := by
  refine ⟨by simp, ?_, ?_, ?_, ?_, ?_, ?_, ?_, ?_⟩ <;> first | (simp; done) | (rw [frozen?_alloc_cells]; exact frozen_past _ _ _ (Nat.le_refl _))
end
def cvl (w : World) (p : Addr) : Value := (w.cell? p).getD (.int .i64 0)
theorem cvl_some {w : World} {p : Addr} (h : (w.cell? p).isSome = true) : w.cell? p = some (cvl w p) := by
  unfold cvl
  cases e : w.cell? p with
  | none => rw [e] at h; exact absurd h (by simp)
  | some v => rfl
theorem cvl_is {w : World} {p : Addr} {v : Value} (h : w.cell? p = some v) : (w.cell? p).isSome = true := by rw [h]; rfl
def KR (W : World) (R B : Nat) (v0 v1 v2 v3 : Value) (w : World) : Prop :=
  w.cell? ⟨B, 0, none⟩ = some v0 ∧ w.cell? ⟨B, 1, none⟩ = some v1 ∧ w.cell? ⟨B, 2, none⟩ = some v2 ∧ w.cell? ⟨B, 3, none⟩ = some v3 ∧ w.cell? ⟨R, 0, none⟩ = some (cvl w ⟨R, 0, none⟩) ∧ w.cell? ⟨R, 1, none⟩ = some (cvl w ⟨R, 1, none⟩) ∧ w.cell? ⟨R, 2, none⟩ = some (cvl w ⟨R, 2, none⟩) ∧ w.cell? ⟨R, 3, none⟩ = some (cvl w ⟨R, 3, none⟩) ∧ w.frozen? ⟨R, 0, none⟩ = false ∧ w.frozen? ⟨R, 1, none⟩ = false ∧ w.frozen? ⟨R, 2, none⟩ = false ∧ w.frozen? ⟨R, 3, none⟩ = false ∧ Below W.heap.size W w ∧ R < w.heap.size ∧ B < w.heap.size ∧ R ≠ B ∧ W.heap.size ≤ R
section
variable {W w w' : World} {R B : Nat} {v0 v1 v2 v3 u0 u1 u2 u3 : Value}
theorem KR.of (hB : B4 w B v0 v1 v2 v3) (hR : B4 w R u0 u1 u2 u3) (hb : Below W.heap.size W w) (hne : R ≠ B) (hW : W.heap.size ≤ R) : KR W R B v0 v1 v2 v3 w :=
  ⟨hB.c0, hB.c1, hB.c2, hB.c3, cvl_some (cvl_is hR.c0), cvl_some (cvl_is hR.c1), cvl_some (cvl_is hR.c2), cvl_some (cvl_is hR.c3), hR.f0, hR.f1, hR.f2, hR.f3, hb, hR.lt, hB.lt, hne, hW⟩
theorem KR.below (h : KR W R B v0 v1 v2 v3 w) (hb : Below w.heap.size w w') : KR W R B v0 v1 v2 v3 w' := by
  obtain ⟨a0, a1, a2, a3, c0, c1, c2, c3, f0, f1, f2, f3, hW, hR, hB, hne, hle⟩ := h
  have cR : ∀ i, w'.cell? ⟨R, i, none⟩ = w.cell? ⟨R, i, none⟩ := fun i => hb.cell (p := ⟨R, i, none⟩) hR
  have cB : ∀ i, w'.cell? ⟨B, i, none⟩ = w.cell? ⟨B, i, none⟩ := fun i => hb.cell (p := ⟨B, i, none⟩) hB
  have fR : ∀ i, w'.frozen? ⟨R, i, none⟩ = w.frozen? ⟨R, i, none⟩ := fun i => hb.frozen (p := ⟨R, i, none⟩) hR
  exact ⟨(cB _).trans a0, (cB _).trans a1, (cB _).trans a2, (cB _).trans a3, cvl_some (by rw [cR]; exact cvl_is c0), cvl_some (by rw [cR]; exact cvl_is c1), cvl_some (by rw [cR]; exact cvl_is c2), cvl_some (by rw [cR]; exact cvl_is c3), (fR _).trans f0, (fR _).trans f1, (fR _).trans f2, (fR _).trans f3, hW.trans (hb.mono (Nat.le_trans hle (Nat.le_of_lt hR))), Nat.lt_of_lt_of_le hR hb.size, Nat.lt_of_lt_of_le hB hb.size, hne, hle⟩
theorem KR.drew (h : KR W R B v0 v1 v2 v3 w) : KR W R B v0 v1 v2 v3 w.drew := h.below ((Below.refl _ _).drew)
theorem KR.set (h : KR W R B v0 v1 v2 v3 w) (j : Nat) (v : Value) : KR W R B v0 v1 v2 v3 (w.setCell ⟨R, j, none⟩ v) := by
  obtain ⟨a0, a1, a2, a3, c0, c1, c2, c3, f0, f1, f2, f3, hW, hR, hB, hne, hle⟩ := h
  have hs : ∀ p, (w.cell? p).isSome = true → ((w.setCell ⟨R, j, none⟩ v).cell? p).isSome = true := fun p hp => by
    by_cases e : (⟨R, j, none⟩ : Addr) = p
    · subst e
      obtain ⟨u, hu⟩ := Option.isSome_iff_exists.1 hp
      rw [World.cell?_setCell_same (w := w) (h := hu)]; rfl
    · rw [World.cell?_setCell_other (w := w) (h := e)]; exact hp
  have cB : ∀ i, (w.setCell ⟨R, j, none⟩ v).cell? ⟨B, i, none⟩ = w.cell? ⟨B, i, none⟩ := fun i => World.cell?_setCell_far _ _ _ _ hne
  exact ⟨(cB _).trans a0, (cB _).trans a1, (cB _).trans a2, (cB _).trans a3, cvl_some (hs _ (cvl_is c0)), cvl_some (hs _ (cvl_is c1)), cvl_some (hs _ (cvl_is c2)), cvl_some (hs _ (cvl_is c3)), by rw [World.frozen?_setCell]; exact f0, by rw [World.frozen?_setCell]; exact f1, by rw [World.frozen?_setCell]; exact f2, by rw [World.frozen?_setCell]; exact f3, hW.setCell hle _, by rw [World.size_setCell]; exact hR, by rw [World.size_setCell]; exact hB, hne, hle⟩
end
end Go.Proofs.YtnmaknnnmjfhkaeDoor

namespace Go.Proofs.YtnmaknnnmjfhkaeDoor
open Go.RowKit
set_option maxRecDepth 4000
set_option linter.unusedVariables false
set_option linter.unusedSimpArgs false
structure RI (W w : World) (c0 c1 c2 c3 : Value) : Prop where
  size : W.heap.size + 2 ≤ w.heap.size
  bel : Below W.heap.size W w
  b0 : w.cell? ⟨W.heap.size, 0, none⟩ = some c0
  b1 : w.cell? ⟨W.heap.size, 1, none⟩ = some c1
  b2 : w.cell? ⟨W.heap.size, 2, none⟩ = some c2
  b3 : w.cell? ⟨W.heap.size, 3, none⟩ = some c3
section
variable {W w w' : World} {c0 c1 c2 c3 : Value}
theorem RI.drew (h : RI W w c0 c1 c2 c3) : RI W w.drew c0 c1 c2 c3 := ⟨h.size, h.bel.drew, h.b0, h.b1, h.b2, h.b3⟩
theorem RI.past (h : RI W w c0 c1 c2 c3) (hb : Below (W.heap.size + 1) w w') : RI W w' c0 c1 c2 c3 :=
  have hs := h.size
  ⟨Nat.le_trans hs hb.size, h.bel.trans (hb.mono (by omega)), (hb.cell (p := ⟨_, 0, none⟩) (by show W.heap.size < _; omega)).trans h.b0, (hb.cell (p := ⟨_, 1, none⟩) (by show W.heap.size < _; omega)).trans h.b1,
    (hb.cell (p := ⟨_, 2, none⟩) (by show W.heap.size < _; omega)).trans h.b2, (hb.cell (p := ⟨_, 3, none⟩) (by show W.heap.size < _; omega)).trans h.b3⟩
theorem RI.below (h : RI W w c0 c1 c2 c3) (hb : Below w.heap.size w w') : RI W w' c0 c1 c2 c3 := h.past (hb.mono (by have := h.size; omega))
theorem RI.wrote {o : Nat} {ys : List Int} (h : RI W w c0 c1 c2 c3) (hw : Wrote w w' (W.heap.size + 1) o ys) : RI W w' c0 c1 c2 c3 := h.past (hw.below (Nat.le_refl _))
theorem RI.toS (h : RI W w c0 c1 c2 c3) : w.cell? ⟨W.heap.size, 0, none⟩ = some c0 ∧ w.cell? ⟨W.heap.size, 1, none⟩ = some c1 ∧ w.cell? ⟨W.heap.size, 2, none⟩ = some c2 ∧ w.cell? ⟨W.heap.size, 3, none⟩ = some c3 ∧ RI W w c0 c1 c2 c3 := ⟨h.b0, h.b1, h.b2, h.b3, h⟩
theorem RI.ofS (h : w.cell? ⟨W.heap.size, 0, none⟩ = some c0 ∧ w.cell? ⟨W.heap.size, 1, none⟩ = some c1 ∧ w.cell? ⟨W.heap.size, 2, none⟩ = some c2 ∧ w.cell? ⟨W.heap.size, 3, none⟩ = some c3 ∧ RI W w c0 c1 c2 c3) : RI W w c0 c1 c2 c3 := h.2.2.2.2
end
end Go.Proofs.YtnmaknnnmjfhkaeDoor

namespace Go.Proofs.YtnmaknnnmjfhkaeDoor
open Go.RowKit
set_option maxRecDepth 8000
set_option linter.unusedVariables false
set_option linter.unusedSimpArgs false
theorem bOut_size (b : List (ByteArray × ByteArray × Bool)) : (bOut b).size ≤ 2460 := by
  unfold bOut
  split
  · rename_i h
    have h1 := batchOk_of h
    have := bForm_size b h1.2
    omega
  · exact Nat.zero_le _
theorem own_chsG {w : World} {B : Nat} {y : Value} {o : List (ByteArray × ByteArray × Bool)} (h : w.ownsRow B 147 3 y o.length (chcells o)) : ∃ a c, y = .slice a o.length c ∧ Chs w a o := by
  rcases owns_forms h with ⟨h1, h2⟩ | ⟨g, cap, h1, h2, _, h3⟩
  · have : o = [] := List.eq_nil_of_length_eq_zero h2
    subst this
    exact ⟨none, 0, h1, .inl rfl⟩
  · exact ⟨_, cap, h1, h3.chs⟩
end Go.Proofs.YtnmaknnnmjfhkaeDoor
