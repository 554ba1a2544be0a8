import Derived.Test.YtnmaknnnmjfhkafGreatMgXCompact50
import Derived.Test.YtnmaknnnmjfhkafGreatMgXCompact51
namespace Go.Proofs.YtnmaknnnmjfhkafGreat
open Go.RowKit
set_option maxRecDepth 8000
set_option linter.unusedVariables false
set_option linter.unusedSimpArgs false

/-- A block with these cells ahead. -/
structure Boxd (w : World) (B : Nat) (cs : List Value) : Prop where
  lt : B < w.heap.size
  cell : ∀ i v, cs[i]? = some v → w.cell? ⟨B, i, none⟩ = some v
theorem Boxd.below {w w' : World} {B : Nat} {cs : List Value} (h : Boxd w B cs) (hb : Below w.heap.size w w') : Boxd w' B cs :=
  ⟨Nat.lt_of_lt_of_le h.lt hb.size, fun i v hv => (hb.cell (p := ⟨B, i, none⟩) h.lt).trans (h.cell i v hv)⟩
theorem Boxd.grown {w w' : World} {B : Nat} {cs : List Value} {r : Option Nat} (h : Boxd w B cs) (hg : w.grownBy w' r) (hn : some B ≠ r) : Boxd w' B cs :=
  ⟨Nat.lt_of_lt_of_le h.lt hg.size, fun i v hv => (World.cell?_of_block (a := ⟨B, i, none⟩) (hg.block B h.lt hn)).trans (h.cell i v hv)⟩
theorem Boxd.new (w : World) (cs : Array Value) (t : TypeId) : Boxd (w.alloc (.cells cs t)) w.heap.size cs.toList :=
  ⟨by simp, fun i v hv => by rw [World.cell?_alloc_at _ _ _ _ rfl]; simpa using hv⟩
def dcells (d : Dd) (a : Option Addr) (c : Nat) (b : Option Addr) (e : Nat) : List Value := [.int .i64 d.C, .int .i64 d.W, .int .i64 d.S, .int .i64 d.L, .int .i64 d.T, .int .i64 d.H, .int .i64 d.F, .int .i64 d.R, .int .i64 d.U, .int .i64 d.O, .slice a d.rs.length c, .slice b d.ops.length e]
/-- A variable that holds what a call of the store came to, and its lists. -/
structure DnBox (w : World) (B : Nat) (d : Dd) (a b : Option Addr) (c e lo hi : Nat) : Prop where
  box : Boxd w B (dcells d a c b e)
  own : OwnDn w d.rs d.ops a b
  one : ∀ g, blk a d.rs.length = some g → lo ≤ g ∧ g < hi
  two : ∀ g, blk b d.ops.length = some g → lo ≤ g ∧ g < hi
theorem DnBox.below {w w' : World} {B : Nat} {d : Dd} {a b : Option Addr} {c e lo hi : Nat} (h : DnBox w B d a b c e lo hi) (hb : Below w.heap.size w w') : DnBox w' B d a b c e lo hi := ⟨h.box.below hb, h.own.below hb, h.one, h.two⟩
theorem DnBox.grown {w w' : World} {B : Nat} {d : Dd} {a b : Option Addr} {c e lo hi : Nat} {r : Option Nat} (h : DnBox w B d a b c e lo hi) (hg : w.grownBy w' r) (hr : ∀ g, r = some g → (g < lo ∨ hi ≤ g) ∧ g ≠ B) : DnBox w' B d a b c e lo hi := by
  refine ⟨h.box.grown hg (fun e => (hr B e.symm).2 rfl), ⟨h.own.s.grown hg (fun g hg' hne e => ?_), h.own.p.grown hg (fun g hg' hne e => ?_), h.own.ne⟩, h.one, h.two⟩
  · subst hg'
    have h1 := h.one g (blk_pos g 0 _ (ne_of_prcells hne))
    have h2 := (hr g e.symm).1
    omega
  · subst hg'
    have h1 := h.two g (blk_pos g 0 _ (ne_of_opcells hne))
    have h2 := (hr g e.symm).1
    omega
theorem dnbox_new {w0 w : World} {d : Dd} {a b : Option Addr} {c e : Nat} (t : TypeId) (ho : OwnDn w d.rs d.ops a b) (h1 : ∀ g, blk a d.rs.length = some g → w0.heap.size ≤ g) (h2 : ∀ g, blk b d.ops.length = some g → w0.heap.size ≤ g) : DnBox (w.alloc (.cells (dcells d a c b e).toArray t)) w.heap.size d a b c e w0.heap.size w.heap.size :=
  ⟨Boxd.new w _ t, ho.below ((Below.refl _ _).alloc (Nat.le_refl _) _), fun g hg => ⟨h1 g hg, ho.s.lt _ prcells_ne g hg⟩, fun g hg => ⟨h2 g hg, ho.p.lt _ opcells_ne g hg⟩⟩
/-- A variable that holds a store, and its pairs. -/
structure StBox (w : World) (B g : Nat) (cs : List Value) (rs : List Pr) : Prop where
  box : Boxd w B cs
  row : Row w g (prcells rs)
theorem StBox.below {w w' : World} {B g : Nat} {cs : List Value} {rs : List Pr} (h : StBox w B g cs rs) (hb : Below w.heap.size w w') : StBox w' B g cs rs := ⟨h.box.below hb, h.row.below hb⟩
theorem blk_one {g n k : Nat} (h : blk (some ⟨g, 0, none⟩) n = some k) : k = g := by
  unfold blk at h
  split at h
  · cases h
  · simp at h; exact h.symm
end Go.Proofs.YtnmaknnnmjfhkafGreat
