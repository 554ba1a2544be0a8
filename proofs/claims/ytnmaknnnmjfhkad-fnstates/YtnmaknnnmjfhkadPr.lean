import Derived.Test.YtnmaknnnmjfhkadPk
import Derived.Test.YtnmaknnnmjfhkadMkB
namespace Go.Proofs.Ytnmaknnnmjfhkad
open Go.RowKit
set_option maxRecDepth 4000
set_option linter.unusedVariables false
set_option linter.unusedSimpArgs false
theorem Rdr.set {w : World} {R : Nat} {a : Option Addr} {n c : Nat} {p : Int} (h : Rdr w R a n c p) (q : Int) (q0 : 0 ≤ q) (q1 : q ≤ 100000000) : Rdr (w.setCell ⟨R, 1, none⟩ (.int .i64 q)) R a n c q := by
  obtain ⟨g, o, ha, hx⟩ := h.bytes
  refine ⟨(World.cell?_setCell_other w ⟨R, 1, none⟩ ⟨R, 0, none⟩ _ (fun e => absurd (congrArg Addr.off e) (by show ¬ (1 = 0); decide))).trans h.b, World.cell?_setCell_same w _ _ h.pc, by rw [World.frozen?_setCell]; exact h.f, ⟨g, o, ha, fun i hi => ?_⟩, q0, q1, h.n1⟩
  obtain ⟨hgR, x, hc, hx0, hx1⟩ := hx i hi
  exact ⟨hgR, x, (World.cell?_setCell_far _ _ _ _ (fun e => hgR e.symm)).trans hc, hx0, hx1⟩
theorem Rdr.drew {w : World} {R : Nat} {a : Option Addr} {n c : Nat} {p : Int} (h : Rdr w R a n c p) : Rdr w.drew R a n c p := ⟨h.b, h.pc, h.f, h.bytes, h.p0, h.p1, h.n1⟩
theorem grown_self (w : World) (R : Nat) (v : Value) : w.grownBy (w.setCell ⟨R, 1, none⟩ v) (some R) :=
  ⟨rfl, rfl, rfl, by rw [World.size_setCell]; exact Nat.le_refl _, fun i hi hr => Below.heap_setCell _ _ _ _ (fun e => hr (congrArg some e))⟩
/-- A number drawn: what it is, and that the reader has gone on. -/
theorem pick_r (R : Nat) (a : Option Addr) (n c : Nat) (p m : Int) (w : World) (h : Rdr w R a n c p) (hp : p < 100000000) : Calls Try.prog 53 #[.pointer (some ⟨R, 0, none⟩), .int .i64 m] w fun e w' => (∃ v, e = .returned (.int .i64 v) ∧ 0 ≤ v ∧ (v = 0 ∨ v < m)) ∧ Rdr w' R a n c (p + 1) ∧ w.grownBy w' (some R) := by
  have p0 := h.p0
  refine (pick_s R a n c p m w h).mono fun e w' hh => ?_
  obtain ⟨hv, rfl | rfl⟩ := hh
  · exact ⟨hv, h.set (p + 1) (by omega) (by omega), grown_self w R _⟩
  · refine ⟨hv, (h.set (p + 1) (by omega) (by omega)).drew, ?_⟩
    have hg := grown_self w R (.int .i64 (p + 1))
    exact ⟨hg.os, hg.tape, hg.output, hg.size, hg.block⟩
/-- The bytes of a code. -/
def Bys (w : World) (a : Option Addr) (n : Nat) : Prop := ∃ g o, (n = 0 ∨ a = some ⟨g, o, none⟩) ∧ ∀ i, i < n → g < w.heap.size ∧ ∃ x : Int, w.cell? ⟨g, o + i, none⟩ = some (.int .u8 x) ∧ 0 ≤ x ∧ x ≤ 255
theorem Bys.below {w w' : World} {a : Option Addr} {n : Nat} (h : Bys w a n) (hb : Below w.heap.size w w') : Bys w' a n := by
  obtain ⟨g, o, ha, hx⟩ := h
  refine ⟨g, o, ha, fun i hi => ?_⟩
  obtain ⟨hg, x, hc, h0, h1⟩ := hx i hi
  exact ⟨Nat.lt_of_lt_of_le hg hb.size, x, (hb.cell (p := ⟨g, o + i, none⟩) hg).trans hc, h0, h1⟩
theorem Bys.rdr {w : World} {a : Option Addr} {n m : Nat} (h : Bys w a n) (hm : m ≤ n) (h2 : m ≤ 2000) (c : Nat) (t : TypeId) : Rdr (w.alloc (.cells #[.slice a m c, .int .i64 0] t)) w.heap.size a m c 0 := by
  obtain ⟨g, o, ha, hx⟩ := h
  refine ⟨by simp, by simp, ?_, ⟨g, o, ?_, fun i hi => ?_⟩, by omega, by omega, h2⟩
  · rw [frozen?_alloc_cells]
    have e : w.heap[w.heap.size]? = none := by simp
    simp [World.frozen?, e]
  · rcases ha with h | h
    · exact .inl (by omega)
    · exact .inr h
  · obtain ⟨hg, x, hc, h0, h1⟩ := hx i (by omega)
    exact ⟨by omega, x, (World.cell?_alloc_past _ _ _ (by exact hg)).trans hc, h0, h1⟩
theorem open_r (a : Option Addr) (n c : Nat) (w : World) (h : Bys w a n) (hn : n ≤ 1048576) (hc : n ≤ c) : Calls Try.prog 50 #[.slice a n c] w fun e w' => e = .returned (.pointer (some ⟨w.heap.size, 0, none⟩)) ∧ (∃ m c', Rdr w' w.heap.size a m c' 0) ∧ Below w.heap.size w w' := by
  by_cases h2 : n ≤ 2000
  · have h2' : (n : Int) ≤ 2000 := by omega
    go_enter Try.func50, Try.ntmps50
    go_wp2
    go_ret
    exact ⟨rfl, ⟨n, c, h.rdr (Nat.le_refl _) h2 c _⟩, (Below.refl _ _).alloc (Nat.le_refl _) _⟩
  · have h2' : 2000 < (n : Int) := by omega
    have hc2 : (2000 : Int) ≤ (c : Int) := by omega
    have HR := hid (h.rdr (m := 2000) (by omega) (Nat.le_refl _) c 168)
    obtain ⟨g, o, ha, hx⟩ := h
    obtain rfl : a = some ⟨g, o, none⟩ := ha.resolve_left (by omega)
    go_enter Try.func50, Try.ntmps50
    go_wp2
    go_ret
    exact ⟨rfl, ⟨2000, c, HR.out⟩, (Below.refl _ _).alloc (Nat.le_refl _) _⟩
theorem lt_of_cell {w : World} {g i : Nat} {v : Value} (h : w.cell? ⟨g, i, none⟩ = some v) : g < w.heap.size := by
  rcases Nat.lt_or_ge g w.heap.size with hl | hl
  · exact hl
  · exfalso
    have : w.heap[g]? = none := Array.getElem?_eq_none hl
    simp [World.cell?, this] at h
theorem Rdr.below {w w' : World} {R : Nat} {a : Option Addr} {n c : Nat} {p : Int} (h : Rdr w R a n c p) (hb : Below w.heap.size w w') : Rdr w' R a n c p := by
  obtain ⟨g, o, ha, hx⟩ := h.bytes
  have hR := lt_of_cell h.pc
  refine ⟨(hb.cell (p := ⟨R, 0, none⟩) hR).trans h.b, (hb.cell (p := ⟨R, 1, none⟩) hR).trans h.pc, (hb.frozen (p := ⟨R, 1, none⟩) hR).trans h.f, ⟨g, o, ha, fun i hi => ?_⟩, h.p0, h.p1, h.n1⟩
  obtain ⟨hgR, x, hc, hx0, hx1⟩ := hx i hi
  exact ⟨hgR, x, (hb.cell (p := ⟨g, o + i, none⟩) (lt_of_cell hc)).trans hc, hx0, hx1⟩
theorem cell_grown {w w' : World} {R b i : Nat} {v : Value} (hg : w.grownBy w' (some R)) (hne : b ≠ R) (h : w.cell? ⟨b, i, none⟩ = some v) : w'.cell? ⟨b, i, none⟩ = some v :=
  (World.cell?_of_block (a := ⟨b, i, none⟩) (hg.block b (lt_of_cell h) (fun e => hne (by injection e)))).trans h
end Go.Proofs.Ytnmaknnnmjfhkad
