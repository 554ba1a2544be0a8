import Derived.Test.YtnmaknnnmjfhkacDoorPgQ
namespace Go.Proofs.YtnmaknnnmjfhkacDoor
open Go.RowKit
set_option maxRecDepth 8000
set_option linter.unusedVariables false
set_option linter.unusedSimpArgs false

/-- While a page is drawn: its variable, the answer's block, the reader. -/
structure DFs (w0 w : World) (P A R : Nat) (k l m : Int) (t : ByteArray) (a : Option Addr) (n c : Nat) (q : Int) : Prop where
  rp : Row w P [.int .i64 k, .int .i64 l, .int .i64 m, .string t]
  ra : Row w A [.int .i64 0, .int .i64 0, .int .i64 0, .string ⟨#[]⟩]
  rd : Rdr w R a n c q
  pa : P ≠ A
  pr : P ≠ R
  ar : A ≠ R
  bp : w0.heap.size ≤ P
  ba : w0.heap.size ≤ A
  br : w0.heap.size ≤ R
  gb : ∀ g o, a = some ⟨g, o, none⟩ → 0 < n → g < w0.heap.size
  be : Below w0.heap.size w0 w
theorem DFs.pick {w0 w w' : World} {P A R : Nat} {k l m : Int} {t : ByteArray} {a : Option Addr} {n c : Nat} {q q' : Int} (h : DFs w0 w P A R k l m t a n c q) (hr : Rdr w' R a n c q') (hg : w.grownBy w' (some R)) : DFs w0 w' P A R k l m t a n c q' :=
  ⟨h.rp.grown hg (fun e => h.pr (by injection e)), h.ra.grown hg (fun e => h.ar (by injection e)), hr, h.pa, h.pr, h.ar, h.bp, h.ba, h.br, h.gb, h.be.trans (grown_below hg h.be.size (fun g e => by cases e; exact h.br))⟩
theorem DFs.below {w0 w w' : World} {P A R : Nat} {k l m : Int} {t : ByteArray} {a : Option Addr} {n c : Nat} {q : Int} (h : DFs w0 w P A R k l m t a n c q) (hb : Below w.heap.size w w') : DFs w0 w' P A R k l m t a n c q :=
  ⟨h.rp.below hb, h.ra.below hb, h.rd.below hb, h.pa, h.pr, h.ar, h.bp, h.ba, h.br, h.gb, h.be.trans (hb.mono h.be.size)⟩
theorem Rdr.far {w : World} {R : Nat} {a : Option Addr} {n c : Nat} {q : Int} (h : Rdr w R a n c q) (p : Addr) (hp : p.block ≠ R) (hg : ∀ g o, a = some ⟨g, o, none⟩ → 0 < n → g ≠ p.block) (v : Value) : Rdr (w.setCell p v) R a n c q := by
  obtain ⟨g, o, ha, hx⟩ := h.bytes
  refine ⟨(World.cell?_setCell_far _ _ _ _ hp).trans h.b, (World.cell?_setCell_far _ _ _ _ hp).trans h.pc, by rw [World.frozen?_setCell]; exact h.f, ⟨g, o, ha, fun i hi => ?_⟩, h.p0, h.p1, h.n1⟩
  obtain ⟨hgR, x, hc, hx0, hx1⟩ := hx i hi
  exact ⟨hgR, x, (World.cell?_setCell_far _ _ _ _ (fun e => hg g o (ha.resolve_left (by omega)) (by omega) e.symm)).trans hc, hx0, hx1⟩
theorem DFs.set0 {w0 w : World} {P A R : Nat} {k l m : Int} {t : ByteArray} {a : Option Addr} {n c : Nat} {q : Int} (h : DFs w0 w P A R k l m t a n c q) (x : Int) : DFs w0 (w.setCell ⟨P, 0, none⟩ (.int .i64 x)) P A R x l m t a n c q :=
  ⟨h.rp.set 0 (by simp) _, h.ra.other _ h.pa _, h.rd.far _ h.pr (fun g o e n0 => by have := h.gb g o e n0; have := h.bp; show g ≠ P; omega) _, h.pa, h.pr, h.ar, h.bp, h.ba, h.br, h.gb, h.be.setCell h.bp _⟩
theorem DFs.set1 {w0 w : World} {P A R : Nat} {k l m : Int} {t : ByteArray} {a : Option Addr} {n c : Nat} {q : Int} (h : DFs w0 w P A R k l m t a n c q) (x : Int) : DFs w0 (w.setCell ⟨P, 1, none⟩ (.int .i64 x)) P A R k x m t a n c q :=
  ⟨h.rp.set 1 (by simp) _, h.ra.other _ h.pa _, h.rd.far _ h.pr (fun g o e n0 => by have := h.gb g o e n0; have := h.bp; show g ≠ P; omega) _, h.pa, h.pr, h.ar, h.bp, h.ba, h.br, h.gb, h.be.setCell h.bp _⟩
theorem DFs.set2 {w0 w : World} {P A R : Nat} {k l m : Int} {t : ByteArray} {a : Option Addr} {n c : Nat} {q : Int} (h : DFs w0 w P A R k l m t a n c q) (x : Int) : DFs w0 (w.setCell ⟨P, 2, none⟩ (.int .i64 x)) P A R k l x t a n c q :=
  ⟨h.rp.set 2 (by simp) _, h.ra.other _ h.pa _, h.rd.far _ h.pr (fun g o e n0 => by have := h.gb g o e n0; have := h.bp; show g ≠ P; omega) _, h.pa, h.pr, h.ar, h.bp, h.ba, h.br, h.gb, h.be.setCell h.bp _⟩
theorem DFs.set3 {w0 w : World} {P A R : Nat} {k l m : Int} {t : ByteArray} {a : Option Addr} {n c : Nat} {q : Int} (h : DFs w0 w P A R k l m t a n c q) (x : ByteArray) : DFs w0 (w.setCell ⟨P, 3, none⟩ (.string x)) P A R k l m x a n c q :=
  ⟨h.rp.set 3 (by simp) _, h.ra.other _ h.pa _, h.rd.far _ h.pr (fun g o e n0 => by have := h.gb g o e n0; have := h.bp; show g ≠ P; omega) _, h.pa, h.pr, h.ar, h.bp, h.ba, h.br, h.gb, h.be.setCell h.bp _⟩
end Go.Proofs.YtnmaknnnmjfhkacDoor
