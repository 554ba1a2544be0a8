import Derived.Test.YtnmaknnnmjfhkaeDoorMgXScan10
import Derived.Test.YtnmaknnnmjfhkaeDoorQxScanFill
import Derived.Deep.RegionHeld
import Derived.Test.YtnmaknnnmjfhkaeDoorMgXScan1

set_option maxHeartbeats 16000000
set_option maxRecDepth 8000
namespace Go.Proofs.YtnmaknnnmjfhkaeDoor
open Go.RowKit
set_option maxRecDepth 4000
set_option linter.unusedVariables false
set_option linter.unusedSimpArgs false
/-- A box of four cells that may be written. -/
structure B4 (w : World) (B : Nat) (v0 v1 v2 v3 : Value) : Prop where
  lt : B < w.heap.size
  c0 : w.cell? ⟨B, 0, none⟩ = some v0
  c1 : w.cell? ⟨B, 1, none⟩ = some v1
  c2 : w.cell? ⟨B, 2, none⟩ = some v2
  c3 : w.cell? ⟨B, 3, none⟩ = some v3
  f0 : w.frozen? ⟨B, 0, none⟩ = false
  f1 : w.frozen? ⟨B, 1, none⟩ = false
  f2 : w.frozen? ⟨B, 2, none⟩ = false
  f3 : w.frozen? ⟨B, 3, none⟩ = false
section
variable {w w' : World} {B : Nat} {v0 v1 v2 v3 : Value}
theorem B4.past (h : B4 w B v0 v1 v2 v3) {N : Nat} (hN : B < N) (hb : Below N w w') : B4 w' B v0 v1 v2 v3 := by
  have hc : ∀ i, w'.cell? ⟨B, i, none⟩ = w.cell? ⟨B, i, none⟩ := fun i => hb.cell (p := ⟨B, i, none⟩) hN
  have hf : ∀ i, w'.frozen? ⟨B, i, none⟩ = w.frozen? ⟨B, i, none⟩ := fun i => hb.frozen (p := ⟨B, i, none⟩) hN
  exact ⟨Nat.lt_of_lt_of_le h.lt hb.size, (hc _).trans h.c0, (hc _).trans h.c1, (hc _).trans h.c2, (hc _).trans h.c3, (hf _).trans h.f0, (hf _).trans h.f1, (hf _).trans h.f2, (hf _).trans h.f3⟩
theorem B4.below (h : B4 w B v0 v1 v2 v3) (hb : Below w.heap.size w w') : B4 w' B v0 v1 v2 v3 := h.past h.lt hb
theorem B4.drew (h : B4 w B v0 v1 v2 v3) : B4 w.drew B v0 v1 v2 v3 := ⟨h.lt, h.c0, h.c1, h.c2, h.c3, h.f0, h.f1, h.f2, h.f3⟩
theorem B4.alloc (h : B4 w B v0 v1 v2 v3) (o : Obj) : B4 (w.alloc o) B v0 v1 v2 v3 := h.below ((Below.refl _ _).alloc (Nat.le_refl _) _)
theorem B4.new (w : World) (v0 v1 v2 v3 : Value) (t : TypeId) : B4 (w.alloc (.cells #[v0, v1, v2, v3] t)) w.heap.size v0 v1 v2 v3 := by
  refine ⟨by simp, ?_, ?_, ?_, ?_, ?_, ?_, ?_, ?_⟩ <;> first | (simp; done) | (rw [frozen?_alloc_cells]; exact frozen_past _ _ _ (Nat.le_refl _))
end
/-- What a cell holds; nothing where there is none. -/
def cvl (w : World) (p : Addr) : Value := (w.cell? p).getD (.int .i64 0)
theorem cvl_some {w : World} {p : Addr} (h : (w.cell? p).isSome = true) : w.cell? p = some (cvl w p) := by
  unfold cvl
  cases e : w.cell? p with
  | none => rw [e] at h; exact absurd h (by simp)
  | some v => rfl
theorem cvl_is {w : World} {p : Addr} {v : Value} (h : w.cell? p = some v) : (w.cell? p).isSome = true := by rw [h]; rfl
/-- What a region keeps that reads a box and writes the answer's. -/
def KR (W : World) (R B : Nat) (v0 v1 v2 v3 : Value) (w : World) : Prop :=
  w.cell? ⟨B, 0, none⟩ = some v0 ∧ w.cell? ⟨B, 1, none⟩ = some v1 ∧ w.cell? ⟨B, 2, none⟩ = some v2 ∧ w.cell? ⟨B, 3, none⟩ = some v3 ∧ w.cell? ⟨R, 0, none⟩ = some (cvl w ⟨R, 0, none⟩) ∧ w.cell? ⟨R, 1, none⟩ = some (cvl w ⟨R, 1, none⟩) ∧ w.cell? ⟨R, 2, none⟩ = some (cvl w ⟨R, 2, none⟩) ∧ w.cell? ⟨R, 3, none⟩ = some (cvl w ⟨R, 3, none⟩) ∧ w.frozen? ⟨R, 0, none⟩ = false ∧ w.frozen? ⟨R, 1, none⟩ = false ∧ w.frozen? ⟨R, 2, none⟩ = false ∧ w.frozen? ⟨R, 3, none⟩ = false ∧ Below W.heap.size W w ∧ R < w.heap.size ∧ B < w.heap.size ∧ R ≠ B ∧ W.heap.size ≤ R
section
variable {W w w' : World} {R B : Nat} {v0 v1 v2 v3 u0 u1 u2 u3 : Value}
theorem KR.of (hB : B4 w B v0 v1 v2 v3) (hR : B4 w R u0 u1 u2 u3) (hb : Below W.heap.size W w) (hne : R ≠ B) (hW : W.heap.size ≤ R) : KR W R B v0 v1 v2 v3 w :=
  ⟨hB.c0, hB.c1, hB.c2, hB.c3, cvl_some (cvl_is hR.c0), cvl_some (cvl_is hR.c1), cvl_some (cvl_is hR.c2), cvl_some (cvl_is hR.c3), hR.f0, hR.f1, hR.f2, hR.f3, hb, hR.lt, hB.lt, hne, hW⟩
theorem KR.below (h : KR W R B v0 v1 v2 v3 w) (hb : Below w.heap.size w w') : KR W R B v0 v1 v2 v3 w' := by
  obtain ⟨a0, a1, a2, a3, c0, c1, c2, c3, f0, f1, f2, f3, hW, hR, hB, hne, hle⟩ := h
  have cR : ∀ i, w'.cell? ⟨R, i, none⟩ = w.cell? ⟨R, i, none⟩ := fun i => hb.cell (p := ⟨R, i, none⟩) hR
  have cB : ∀ i, w'.cell? ⟨B, i, none⟩ = w.cell? ⟨B, i, none⟩ := fun i => hb.cell (p := ⟨B, i, none⟩) hB
  have fR : ∀ i, w'.frozen? ⟨R, i, none⟩ = w.frozen? ⟨R, i, none⟩ := fun i => hb.frozen (p := ⟨R, i, none⟩) hR
  exact ⟨(cB _).trans a0, (cB _).trans a1, (cB _).trans a2, (cB _).trans a3, cvl_some (by rw [cR]; exact cvl_is c0), cvl_some (by rw [cR]; exact cvl_is c1), cvl_some (by rw [cR]; exact cvl_is c2), cvl_some (by rw [cR]; exact cvl_is c3), (fR _).trans f0, (fR _).trans f1, (fR _).trans f2, (fR _).trans f3, hW.trans (hb.mono (Nat.le_trans hle (Nat.le_of_lt hR))), Nat.lt_of_lt_of_le hR hb.size, Nat.lt_of_lt_of_le hB hb.size, hne, hle⟩
theorem KR.drew (h : KR W R B v0 v1 v2 v3 w) : KR W R B v0 v1 v2 v3 w.drew := h.below ((Below.refl _ _).drew)
theorem KR.set (h : KR W R B v0 v1 v2 v3 w) (j : Nat) (v : Value) : KR W R B v0 v1 v2 v3 (w.setCell ⟨R, j, none⟩ v) := by
  obtain ⟨a0, a1, a2, a3, c0, c1, c2, c3, f0, f1, f2, f3, hW, hR, hB, hne, hle⟩ := h
  have hs : ∀ p, (w.cell? p).isSome = true → ((w.setCell ⟨R, j, none⟩ v).cell? p).isSome = true := fun p hp => by
    by_cases e : (⟨R, j, none⟩ : Addr) = p
    · subst e
      obtain ⟨u, hu⟩ := Option.isSome_iff_exists.1 hp
      rw [World.cell?_setCell_same (w := w) (h := hu)]; rfl
    · rw [World.cell?_setCell_other (w := w) (h := e)]; exact hp
  have cB : ∀ i, (w.setCell ⟨R, j, none⟩ v).cell? ⟨B, i, none⟩ = w.cell? ⟨B, i, none⟩ := fun i => World.cell?_setCell_far _ _ _ _ hne
  exact ⟨(cB _).trans a0, (cB _).trans a1, (cB _).trans a2, (cB _).trans a3, cvl_some (hs _ (cvl_is c0)), cvl_some (hs _ (cvl_is c1)), cvl_some (hs _ (cvl_is c2)), cvl_some (hs _ (cvl_is c3)), by rw [World.frozen?_setCell]; exact f0, by rw [World.frozen?_setCell]; exact f1, by rw [World.frozen?_setCell]; exact f2, by rw [World.frozen?_setCell]; exact f3, hW.setCell hle _, by rw [World.size_setCell]; exact hR, by rw [World.size_setCell]; exact hB, hne, hle⟩
end
end Go.Proofs.YtnmaknnnmjfhkaeDoor

namespace Go.Proofs.YtnmaknnnmjfhkaeDoor
open Go.RowKit

theorem hid {p : Prop} (h : p) : Hid p := h
theorem ret_int {k : IntKind} {a b : Int} (h : a = b) : Ending.returned (.int k a) = .returned (.int k b) := by rw [h]

/-- Texts in a row of memory: what a slice of them shows. -/
def Strs (w : World) (a : Option Addr) (ss : List ByteArray) : Prop :=
  ss = [] ∨ ∃ b o, a = some ⟨b, o, none⟩ ∧ b < w.heap.size ∧ ∀ i, i < ss.length → w.cell? ⟨b, o + i, none⟩ = some (.string (ss.getD i ByteArray.empty))
/-- Pairs of a number and a text in a row of memory. -/
def Wrs (w : World) (a : Option Addr) (ws : List (Int × ByteArray)) : Prop :=
  ws = [] ∨ ∃ b o, a = some ⟨b, o, none⟩ ∧ b < w.heap.size ∧ ∀ i, i < ws.length → w.cell? ⟨b, o + i * 2, none⟩ = some (.int .i64 (ws.getD i (0, ByteArray.empty)).1) ∧ w.cell? ⟨b, o + i * 2 + 1, none⟩ = some (.string (ws.getD i (0, ByteArray.empty)).2)
theorem Strs.below {w w' : World} {a : Option Addr} {ss : List ByteArray} (h : Strs w a ss) (hb : Below w.heap.size w w') : Strs w' a ss := by
  rcases h with h | ⟨b, o, h1, h2, h3⟩
  · exact .inl h
  · exact .inr ⟨b, o, h1, Nat.lt_of_lt_of_le h2 hb.size, fun i hi => (hb.cell (p := ⟨b, o + i, none⟩) h2).trans (h3 i hi)⟩
theorem Wrs.below {w w' : World} {a : Option Addr} {ws : List (Int × ByteArray)} (h : Wrs w a ws) (hb : Below w.heap.size w w') : Wrs w' a ws := by
  rcases h with h | ⟨b, o, h1, h2, h3⟩
  · exact .inl h
  · exact .inr ⟨b, o, h1, Nat.lt_of_lt_of_le h2 hb.size, fun i hi => ⟨(hb.cell (p := ⟨b, o + i * 2, none⟩) h2).trans (h3 i hi).1, (hb.cell (p := ⟨b, o + i * 2 + 1, none⟩) h2).trans (h3 i hi).2⟩⟩
theorem Strs.at {w : World} {a : Option Addr} {ss : List ByteArray} (h : Strs w a ss) {k : Nat} (hk : k < ss.length) : ∃ b o s, a = some ⟨b, o, none⟩ ∧ w.cell? ⟨b, o + k, none⟩ = some (.string s) ∧ Hid (s = ss.getD k ByteArray.empty) := by
  rcases h with h | ⟨b, o, h1, h2, h3⟩
  · subst h; simp at hk
  · exact ⟨b, o, _, h1, h3 k hk, hid rfl⟩
theorem Wrs.at {w : World} {a : Option Addr} {ws : List (Int × ByteArray)} (h : Wrs w a ws) {k : Nat} (hk : k < ws.length) : ∃ b o n s, a = some ⟨b, o, none⟩ ∧ w.cell? ⟨b, o + k * 2, none⟩ = some (.int .i64 n) ∧ w.cell? ⟨b, o + k * 2 + 1, none⟩ = some (.string s) ∧ Hid ((n, s) = ws.getD k (0, ByteArray.empty)) := by
  rcases h with h | ⟨b, o, h1, h2, h3⟩
  · subst h; simp at hk
  · exact ⟨b, o, _, _, h1, (h3 k hk).1, (h3 k hk).2, hid rfl⟩

/-- What is left of a number when sizes are taken off one by one: -1 as soon as it is below 0. -/
def szL : List Nat → Int → Int
  | [], x => x
  | n :: r, x => if x - (n : Int) < 0 then -1 else szL r (x - (n : Int))
theorem szL_bd : ∀ (l : List Nat) (x : Int), 0 ≤ x → szL l x = -1 ∨ (0 ≤ szL l x ∧ szL l x ≤ x)
  | [], x, h => .inr ⟨h, Int.le_refl _⟩
  | n :: r, x, h => by
    unfold szL
    split
    · exact .inl rfl
    · rcases szL_bd r (x - (n : Int)) (by omega) with h1 | h1
      · exact .inl h1
      · exact .inr ⟨h1.1, by omega⟩
theorem szL_cons_lt {n : Nat} {x : Int} (r : List Nat) (h : x - (n : Int) < 0) : szL (n :: r) x = -1 := by unfold szL; exact if_pos h
theorem szL_cons_ge {n : Nat} {x : Int} (r : List Nat) (h : ¬ x - (n : Int) < 0) : szL (n :: r) x = szL r (x - (n : Int)) := by
  show (if x - (n : Int) < 0 then -1 else szL r (x - (n : Int))) = _
  exact if_neg h
theorem szL_append_no : ∀ (l r : List Nat) (x : Int), 0 ≤ x → szL l x < 0 → szL (l ++ r) x = -1
  | [], r, x, h, hl => by have : szL [] x = x := rfl; omega
  | n :: l, r, x, h, hl => by
    by_cases hn : x - (n : Int) < 0
    · exact szL_cons_lt _ hn
    · rw [szL_cons_ge _ hn] at hl
      rw [List.cons_append, szL_cons_ge _ hn]
      exact szL_append_no l r _ (by omega) hl
theorem szL_append_yes : ∀ (l r : List Nat) (x : Int), 0 ≤ x → 0 ≤ szL l x → szL (l ++ r) x = szL r (szL l x)
  | [], r, x, h, hl => rfl
  | n :: l, r, x, h, hl => by
    by_cases hn : x - (n : Int) < 0
    · rw [szL_cons_lt _ hn] at hl; omega
    · rw [szL_cons_ge _ hn] at hl ⊢
      rw [List.cons_append, szL_cons_ge _ hn]
      exact szL_append_yes l r _ (by omega) hl
theorem szL_mem : ∀ (l : List Nat) (x : Int), 0 ≤ x → 0 ≤ szL l x → ∀ n ∈ l, (n : Int) ≤ x
  | [], _, _, _, n, hn => by simp at hn
  | m :: r, x, h, hz, n, hn => by
    unfold szL at hz
    by_cases hm : x - (m : Int) < 0
    · rw [if_pos hm] at hz; omega
    · rw [if_neg hm] at hz
      rcases List.mem_cons.1 hn with rfl | hn
      · omega
      · have := szL_mem r _ (by omega) hz n hn; omega
theorem drop_at {α : Type} (l : List α) (k : Nat) (d : α) (h : k < l.length) : l.drop k = l.getD k d :: l.drop (k + 1) := by
  rw [List.drop_eq_getElem_cons h]; simp [List.getD, h]
end Go.Proofs.YtnmaknnnmjfhkaeDoor
