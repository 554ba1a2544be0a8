import Derived.Test.YtnmaknnnmjfhkadPlain
namespace Go.Proofs.Ytnmaknnnmjfhkad
open Go.RowKit

theorem hid {p : Prop} (h : p) : Hid p := h
theorem ret_int {k : IntKind} {a b : Int} (h : a = b) : Ending.returned (.int k a) = .returned (.int k b) := by rw [h]

/-- Texts in a row of memory: what a slice of them shows. -/
def Strs (w : World) (a : Option Addr) (ss : List ByteArray) : Prop :=
  ss = [] ∨ ∃ b o, a = some ⟨b, o, none⟩ ∧ b < w.heap.size ∧ ∀ i, i < ss.length → w.cell? ⟨b, o + i, none⟩ = some (.string (ss.getD i ByteArray.empty))
/-- Pairs of a number and a text in a row of memory. -/
def Wrs (w : World) (a : Option Addr) (ws : List (Int × ByteArray)) : Prop :=
  ws = [] ∨ ∃ b o, a = some ⟨b, o, none⟩ ∧ b < w.heap.size ∧ ∀ i, i < ws.length → w.cell? ⟨b, o + i * 2, none⟩ = some (.int .i64 (ws.getD i (0, ByteArray.empty)).1) ∧ w.cell? ⟨b, o + i * 2 + 1, none⟩ = some (.string (ws.getD i (0, ByteArray.empty)).2)
theorem Strs.below {w w' : World} {a : Option Addr} {ss : List ByteArray} (h : Strs w a ss) (hb : Below w.heap.size w w') : Strs w' a ss := by
  rcases h with h | ⟨b, o, h1, h2, h3⟩
  · exact .inl h
  · exact .inr ⟨b, o, h1, Nat.lt_of_lt_of_le h2 hb.size, fun i hi => (hb.cell (p := ⟨b, o + i, none⟩) h2).trans (h3 i hi)⟩
theorem Wrs.below {w w' : World} {a : Option Addr} {ws : List (Int × ByteArray)} (h : Wrs w a ws) (hb : Below w.heap.size w w') : Wrs w' a ws := by
  rcases h with h | ⟨b, o, h1, h2, h3⟩
  · exact .inl h
  · exact .inr ⟨b, o, h1, Nat.lt_of_lt_of_le h2 hb.size, fun i hi => ⟨(hb.cell (p := ⟨b, o + i * 2, none⟩) h2).trans (h3 i hi).1, (hb.cell (p := ⟨b, o + i * 2 + 1, none⟩) h2).trans (h3 i hi).2⟩⟩
theorem Strs.at {w : World} {a : Option Addr} {ss : List ByteArray} (h : Strs w a ss) {k : Nat} (hk : k < ss.length) : ∃ b o s, a = some ⟨b, o, none⟩ ∧ w.cell? ⟨b, o + k, none⟩ = some (.string s) ∧ Hid (s = ss.getD k ByteArray.empty) := by
  rcases h with h | ⟨b, o, h1, h2, h3⟩
  · subst h; simp at hk
  · exact ⟨b, o, _, h1, h3 k hk, hid rfl⟩
theorem Wrs.at {w : World} {a : Option Addr} {ws : List (Int × ByteArray)} (h : Wrs w a ws) {k : Nat} (hk : k < ws.length) : ∃ b o n s, a = some ⟨b, o, none⟩ ∧ w.cell? ⟨b, o + k * 2, none⟩ = some (.int .i64 n) ∧ w.cell? ⟨b, o + k * 2 + 1, none⟩ = some (.string s) ∧ Hid ((n, s) = ws.getD k (0, ByteArray.empty)) := by
  rcases h with h | ⟨b, o, h1, h2, h3⟩
  · subst h; simp at hk
  · exact ⟨b, o, _, _, h1, (h3 k hk).1, (h3 k hk).2, hid rfl⟩

/-- What is left of a number when sizes are taken off one by one: -1 as soon as it is below 0. -/
def szL : List Nat → Int → Int
  | [], x => x
  | n :: r, x => if x - (n : Int) < 0 then -1 else szL r (x - (n : Int))
theorem szL_bd : ∀ (l : List Nat) (x : Int), 0 ≤ x → szL l x = -1 ∨ (0 ≤ szL l x ∧ szL l x ≤ x)
  | [], x, h => .inr ⟨h, Int.le_refl _⟩
  | n :: r, x, h => by
    unfold szL
    split
    · exact .inl rfl
    · rcases szL_bd r (x - (n : Int)) (by omega) with h1 | h1
      · exact .inl h1
      · exact .inr ⟨h1.1, by omega⟩
theorem szL_cons_lt {n : Nat} {x : Int} (r : List Nat) (h : x - (n : Int) < 0) : szL (n :: r) x = -1 := by unfold szL; exact if_pos h
theorem szL_cons_ge {n : Nat} {x : Int} (r : List Nat) (h : ¬ x - (n : Int) < 0) : szL (n :: r) x = szL r (x - (n : Int)) := by
  show (if x - (n : Int) < 0 then -1 else szL r (x - (n : Int))) = _
  exact if_neg h
theorem szL_append_no : ∀ (l r : List Nat) (x : Int), 0 ≤ x → szL l x < 0 → szL (l ++ r) x = -1
  | [], r, x, h, hl => by have : szL [] x = x := rfl; omega
  | n :: l, r, x, h, hl => by
    by_cases hn : x - (n : Int) < 0
    · exact szL_cons_lt _ hn
    · rw [szL_cons_ge _ hn] at hl
      rw [List.cons_append, szL_cons_ge _ hn]
      exact szL_append_no l r _ (by omega) hl
theorem szL_append_yes : ∀ (l r : List Nat) (x : Int), 0 ≤ x → 0 ≤ szL l x → szL (l ++ r) x = szL r (szL l x)
  | [], r, x, h, hl => rfl
  | n :: l, r, x, h, hl => by
    by_cases hn : x - (n : Int) < 0
    · rw [szL_cons_lt _ hn] at hl; omega
    · rw [szL_cons_ge _ hn] at hl ⊢
      rw [List.cons_append, szL_cons_ge _ hn]
      exact szL_append_yes l r _ (by omega) hl
theorem szL_mem : ∀ (l : List Nat) (x : Int), 0 ≤ x → 0 ≤ szL l x → ∀ n ∈ l, (n : Int) ≤ x
  | [], _, _, _, n, hn => by simp at hn
  | m :: r, x, h, hz, n, hn => by
    unfold szL at hz
    by_cases hm : x - (m : Int) < 0
    · rw [if_pos hm] at hz; omega
    · rw [if_neg hm] at hz
      rcases List.mem_cons.1 hn with rfl | hn
      · omega
      · have := szL_mem r _ (by omega) hz n hn; omega
theorem drop_at {α : Type} (l : List α) (k : Nat) (d : α) (h : k < l.length) : l.drop k = l.getD k d :: l.drop (k + 1) := by
  rw [List.drop_eq_getElem_cons h]; simp [List.getD, h]
end Go.Proofs.Ytnmaknnnmjfhkad
