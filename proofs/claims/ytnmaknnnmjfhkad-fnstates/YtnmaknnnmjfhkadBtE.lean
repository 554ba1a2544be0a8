import Derived.Test.YtnmaknnnmjfhkadRgM
import Derived.Test.YtnmaknnnmjfhkadStp
import Derived.Test.YtnmaknnnmjfhkadChA
import Derived.Test.YtnmaknnnmjfhkadDsk
import Derived.Test.YtnmaknnnmjfhkadGrw
import Derived.WalkLawsBesides
namespace Go.Proofs.Ytnmaknnnmjfhkad
open Go.RowKit
set_option maxRecDepth 4000
set_option linter.unusedVariables false
set_option linter.unusedSimpArgs false

/-- How great the keys and values of changes are. -/
def chsLe (rs : List (ByteArray × ByteArray × Bool)) (k v : Nat) : Prop := ∀ x ∈ rs, x.1.size ≤ k ∧ x.2.1.size ≤ v
theorem owns_slice {w : World} {B : Nat} {e : TypeId} {k : Nat} {y : Value} {m : Nat} {cs : List Value} (h : w.ownsRow B e k y m cs) : ∃ ya yc, y = .slice ya m yc := by
  rcases owns_forms h with ⟨h1, h2⟩ | ⟨g, cap, h1, _⟩
  · exact ⟨none, 0, by rw [h1, h2]⟩
  · exact ⟨_, cap, h1⟩
/-- While a row is drawn: the reader, the row, what else there was. -/
structure BdS (w0 w : World) (e : TypeId) (k : Nat) (R : Nat) (a : Option Addr) (n c : Nat) (q : Int) (y : Value) (m : Nat) (cs : List Value) : Prop where
  rd : Rdr w R a n c q
  own : w.ownsRow w0.heap.size e k y m cs
  gr : w0.grownBy w (some R)
  lR : R < w0.heap.size
  ga : ∀ g o, a = some ⟨g, o, none⟩ → 0 < n → g < w0.heap.size
theorem BdS.pick {w0 w w' : World} {e : TypeId} {k : Nat} {R : Nat} {a : Option Addr} {n c : Nat} {q q' : Int} {y : Value} {m : Nat} {cs : List Value} (h : BdS w0 w e k R a n c q y m cs) (hr : Rdr w' R a n c q') (hg : w.grownBy w' (some R)) : BdS w0 w' e k R a n c q' y m cs :=
  ⟨hr, h.own.kept hg (.inr (fun e => by have := (h.own.lt _ e).1; have := h.lR; omega)), grown_trans h.gr hg, h.lR, h.ga⟩
theorem BdS.below {w0 w w' : World} {e : TypeId} {k : Nat} {R : Nat} {a : Option Addr} {n c : Nat} {q : Int} {y : Value} {m : Nat} {cs : List Value} (h : BdS w0 w e k R a n c q y m cs) (hb : Below w.heap.size w w') : BdS w0 w' e k R a n c q y m cs :=
  ⟨h.rd.below hb, owns_below h.own hb, grown_trans h.gr (grown_of_below _ hb), h.lR, h.ga⟩
theorem BdS.drew {w0 w : World} {e : TypeId} {k : Nat} {R : Nat} {a : Option Addr} {n c : Nat} {q : Int} {y : Value} {m : Nat} {cs : List Value} (h : BdS w0 w e k R a n c q y m cs) : BdS w0 w.drew e k R a n c q y m cs := h.below (Below.refl _ _).drew
theorem BdS.lt {w0 w : World} {e : TypeId} {k : Nat} {R : Nat} {a : Option Addr} {n c : Nat} {q : Int} {y : Value} {m : Nat} {cs : List Value} (h : BdS w0 w e k R a n c q y m cs) : w0.heap.size ≤ w.heap.size := h.gr.size
/-- A cell that is none of these is set. -/
theorem BdS.set {w0 w : World} {e : TypeId} {k : Nat} {R : Nat} {a : Option Addr} {n c : Nat} {q : Int} {y : Value} {m : Nat} {cs : List Value} (h : BdS w0 w e k R a n c q y m cs) (X i : Nat) (hX : w0.heap.size ≤ X) (hy : y.ownBlock ≠ some X) (v : Value) : BdS w0 (w.setCell ⟨X, i, none⟩ v) e k R a n c q y m cs := by
  have hl := h.lR
  refine ⟨h.rd.keep (N := w0.heap.size) hl h.ga ((Below.refl _ _).setCell hX _), ownsRow_setCell_other h.own hy v, grown_setN h.gr _ hX _, hl, h.ga⟩
/-- The row is put behind. -/
theorem BdS.push {w0 w w' : World} {e : TypeId} {k : Nat} {R : Nat} {a : Option Addr} {n c : Nat} {q : Int} {y y' : Value} {m m' : Nat} {cs cs' : List Value} (h : BdS w0 w e k R a n c q y m cs) (hown : w'.ownsRow w0.heap.size e k y' m' cs') (hg : w.grownBy w' y.ownBlock) : BdS w0 w' e k R a n c q y' m' cs' := by
  have hb : Below w0.heap.size w w' := grown_below hg h.lt (fun g e => (h.own.lt _ e).1)
  exact ⟨h.rd.keep (N := w0.heap.size) h.lR h.ga hb, hown, ⟨hg.os.trans h.gr.os, hg.tape.trans h.gr.tape, hg.output.trans h.gr.output, Nat.le_trans h.gr.size hg.size, fun i hi hr => (hb.block i hi).trans (h.gr.block i hi hr)⟩, h.lR, h.ga⟩
/-- And a box beside it. -/
structure BdX (w0 w : World) (e : TypeId) (k : Nat) (R : Nat) (a : Option Addr) (n c : Nat) (q : Int) (y : Value) (m : Nat) (cs : List Value) (X : Nat) (xs : List Value) : Prop where
  s : BdS w0 w e k R a n c q y m cs
  row : Row w X xs
  xo : y.ownBlock ≠ some X
  xb : w0.heap.size ≤ X
theorem BdX.ne {w0 w : World} {e : TypeId} {k : Nat} {R : Nat} {a : Option Addr} {n c : Nat} {q : Int} {y : Value} {m : Nat} {cs : List Value} {X : Nat} {xs : List Value} (h : BdX w0 w e k R a n c q y m cs X xs) : X ≠ R := by have := h.xb; have := h.s.lR; omega
theorem BdX.pick {w0 w w' : World} {e : TypeId} {k : Nat} {R : Nat} {a : Option Addr} {n c : Nat} {q q' : Int} {y : Value} {m : Nat} {cs : List Value} {X : Nat} {xs : List Value} (h : BdX w0 w e k R a n c q y m cs X xs) (hr : Rdr w' R a n c q') (hg : w.grownBy w' (some R)) : BdX w0 w' e k R a n c q' y m cs X xs :=
  ⟨h.s.pick hr hg, h.row.grown hg (fun e => h.ne (by injection e)), h.xo, h.xb⟩
theorem BdX.below {w0 w w' : World} {e : TypeId} {k : Nat} {R : Nat} {a : Option Addr} {n c : Nat} {q : Int} {y : Value} {m : Nat} {cs : List Value} {X : Nat} {xs : List Value} (h : BdX w0 w e k R a n c q y m cs X xs) (hb : Below w.heap.size w w') : BdX w0 w' e k R a n c q y m cs X xs :=
  ⟨h.s.below hb, h.row.below hb, h.xo, h.xb⟩
theorem BdX.drew {w0 w : World} {e : TypeId} {k : Nat} {R : Nat} {a : Option Addr} {n c : Nat} {q : Int} {y : Value} {m : Nat} {cs : List Value} {X : Nat} {xs : List Value} (h : BdX w0 w e k R a n c q y m cs X xs) : BdX w0 w.drew e k R a n c q y m cs X xs := h.below (Below.refl _ _).drew
theorem BdX.set {w0 w : World} {e : TypeId} {k : Nat} {R : Nat} {a : Option Addr} {n c : Nat} {q : Int} {y : Value} {m : Nat} {cs : List Value} {X : Nat} {xs : List Value} (h : BdX w0 w e k R a n c q y m cs X xs) (i : Nat) (hi : i < xs.length) (v : Value) : BdX w0 (w.setCell ⟨X, i, none⟩ v) e k R a n c q y m cs X (xs.set i v) :=
  ⟨h.s.set X i h.xb h.xo v, h.row.set i hi v, h.xo, h.xb⟩
theorem BdS.box {w0 w : World} {e : TypeId} {k : Nat} {R : Nat} {a : Option Addr} {n c : Nat} {q : Int} {y : Value} {m : Nat} {cs : List Value} (h : BdS w0 w e k R a n c q y m cs) (A : Array Value) (t : TypeId) : BdX w0 (w.alloc (.cells A t)) e k R a n c q y m cs w.heap.size A.toList :=
  ⟨h.below (below_nw _ _), row_new _ _ _, fun e => by have := (h.own.lt _ e).2; omega, h.lt⟩
theorem news_at (w : World) (cs : Array Value) (t : TypeId) : ∀ j u, cs.toList[j]? = some u → (w.alloc (.cells cs t)).cell? ((⟨w.heap.size, 0, none⟩ : Addr).add j) = some u := World.news_of_block (heap_alloc_new w (.cells cs t))
end Go.Proofs.Ytnmaknnnmjfhkad
