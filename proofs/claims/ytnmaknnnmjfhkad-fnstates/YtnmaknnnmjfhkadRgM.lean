import Derived.Test.YtnmaknnnmjfhkadPt
import Derived.OrdersHeld
import Derived.Deep.RegionHeld
namespace Go.Proofs.Ytnmaknnnmjfhkad
open Go.RowKit
set_option linter.unusedVariables false

/-- What is held may be made more on the way. -/
theorem wpAnyH_more {P : Program} {md : Region.Mode} {ops : Array Oper} {Q : Exit → Act → World → Prop} {S S' : World → Prop} (hS : ∀ w, S' w → S w) : ∀ (fuel : Nat) (listed : Array Bool) (a : Act) (w : World), wpAnyH P md ops Q S' fuel listed a w → wpAnyH P md ops Q S fuel listed a w
  | 0, _, _, _, h => h
  | fuel + 1, _, _, _, h => ⟨h.1, fun i hi => wpOp_mono (fun a' w' h' => ⟨hS _ h'.1, wpAnyH_more hS fuel _ a' w' h'.2⟩) (h.2 i hi)⟩
/-- The beginning, with the operations and what is asked behind them as names. -/
theorem wp_region_exp {P : Program} {ops : Array Oper} {Q : Exit → Act → World → Prop} {S : World → Prop} {id : Nat} {a : Act} {w : World} (hm : P.follows .mixedOrders = true) (hS : S w.drew) (h : ∀ (O : Array Oper) (Q0 : Exit → Act → World → Prop), O = ops → Q0 = Q → S w.drew → wpAnyH P .any O Q0 S O.size (Array.replicate O.size false) a w.drew) : (Code.region id ops true).wp P Q a w :=
  wp_region_held_drew hm hS (h ops Q rfl rfl)
/-- One of some numbers. -/
def nth (l : List Int) (n : Nat) : Int := l.getD n 0
theorem Row.nth {w : World} {g : Nat} {l : List Int} (h : Row w g (l.map (Value.int .i64))) {n : Nat} (hn : n < l.length) : w.cell? ⟨g, n, none⟩ = some (.int .i64 (nth l n)) :=
  h.cell n _ (by simp [Go.Proofs.Ytnmaknnnmjfhkad.nth, List.getD, hn])
theorem below_nw (w : World) (o : Obj) : Below w.heap.size w (w.alloc o) := (Below.refl _ _).alloc (Nat.le_refl _) _
theorem grown_setN {a b : World} {r : Option Nat} (h : a.grownBy b r) (p : Addr) (hp : a.heap.size ≤ p.block) (v : Value) : a.grownBy (b.setCell p v) r :=
  ⟨h.os, h.tape, h.output, by rw [World.size_setCell]; exact h.size, fun i hi hr => (Below.heap_setCell _ _ _ _ (fun e => by omega)).trans (h.block i hi hr)⟩
theorem Rdr.keep {w w' : World} {R N : Nat} {a : Option Addr} {n c : Nat} {p : Int} (h : Rdr w R a n c p) (hN : R < N) (hg : ∀ g o, a = some ⟨g, o, none⟩ → 0 < n → g < N) (hb : Below N w w') : Rdr w' R a n c p := by
  obtain ⟨g, o, ha, hx⟩ := h.bytes
  refine ⟨(hb.cell (p := ⟨R, 0, none⟩) hN).trans h.b, (hb.cell (p := ⟨R, 1, none⟩) hN).trans h.pc, (hb.frozen (p := ⟨R, 1, none⟩) hN).trans h.f, ⟨g, o, ha, fun i hi => ?_⟩, h.p0, h.p1, h.n1⟩
  obtain ⟨hgR, x, hc, hx0, hx1⟩ := hx i hi
  exact ⟨hgR, x, (hb.cell (p := ⟨g, o + i, none⟩) (hg g o (ha.resolve_left (by omega)) (by omega))).trans hc, hx0, hx1⟩
theorem Rdr.lts {w : World} {R : Nat} {a : Option Addr} {n c : Nat} {p : Int} (h : Rdr w R a n c p) : R < w.heap.size ∧ ∀ g o, a = some ⟨g, o, none⟩ → 0 < n → g < w.heap.size := by
  refine ⟨lt_of_cell h.pc, fun g o ha hn => ?_⟩
  obtain ⟨g', o', ha', hx⟩ := h.bytes
  have e := ha'.resolve_left (by omega)
  rw [ha] at e
  injection e with e
  injection e with e1 e2
  subst e1
  obtain ⟨_, x, hc, _⟩ := hx 0 hn
  exact lt_of_cell hc

end Go.Proofs.Ytnmaknnnmjfhkad
