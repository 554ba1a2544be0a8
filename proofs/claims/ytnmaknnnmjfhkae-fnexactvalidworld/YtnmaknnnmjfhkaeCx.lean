import Derived.Test.YtnmaknnnmjfhkaeMkB
namespace Go.Proofs.Ytnmaknnnmjfhkae
open Go.RowKit

/-- A variable of two cells. -/
structure Cx (w : World) (B : Nat) (v0 v1 : Value) : Prop where
  lt : B < w.heap.size
  c0 : w.cell? ⟨B, 0, none⟩ = some v0
  c1 : w.cell? ⟨B, 1, none⟩ = some v1
theorem Cx.below {w w' : World} {B : Nat} {v0 v1 : Value} (h : Cx w B v0 v1) (hb : Below w.heap.size w w') : Cx w' B v0 v1 :=
  ⟨Nat.lt_of_lt_of_le h.lt hb.size, (hb.cell (p := ⟨_, 0, none⟩) h.lt).trans h.c0, (hb.cell (p := ⟨_, 1, none⟩) h.lt).trans h.c1⟩
theorem Cx.grown {w w' : World} {B : Nat} {v0 v1 : Value} {r : Option Nat} (h : Cx w B v0 v1) (hg : w.grownBy w' r) (hn : some B ≠ r) : Cx w' B v0 v1 :=
  ⟨Nat.lt_of_lt_of_le h.lt hg.size, (World.cell?_of_block (a := ⟨B, 0, none⟩) (hg.block B h.lt hn)).trans h.c0, (World.cell?_of_block (a := ⟨B, 1, none⟩) (hg.block B h.lt hn)).trans h.c1⟩
theorem Cx.drew {w : World} {B : Nat} {v0 v1 : Value} (h : Cx w B v0 v1) : Cx w.drew B v0 v1 := ⟨h.lt, h.c0, h.c1⟩
theorem Cx.new (w : World) (v0 v1 : Value) (t : TypeId) : Cx (w.alloc (.cells #[v0, v1] t)) w.heap.size v0 v1 :=
  ⟨by simp, by rw [World.cell?_alloc_at _ _ _ _ rfl]; rfl, by rw [World.cell?_alloc_at _ _ _ _ rfl]; rfl⟩
theorem below_new (w : World) (o : Obj) : Below w.heap.size w (w.alloc o) := (Below.refl _ _).alloc (Nat.le_refl _) _
theorem Below.then {B : Nat} {a b c : World} (h : Below B a b) (hB : B ≤ a.heap.size) (k : Below b.heap.size b c) : Below B a c := h.trans (k.mono (Nat.le_trans hB h.size))
end Go.Proofs.Ytnmaknnnmjfhkae
