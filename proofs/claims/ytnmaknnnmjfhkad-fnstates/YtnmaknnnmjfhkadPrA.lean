import Derived.Test.YtnmaknnnmjfhkadRow
namespace Go.Proofs.Ytnmaknnnmjfhkad
open Go.RowKit

abbrev PrT := ByteArray × ByteArray
/-- Records in a row of memory. -/
def Prs (w : World) (a : Option Addr) (rs : List (ByteArray × ByteArray)) : Prop :=
  rs = [] ∨ ∃ b o, a = some ⟨b, o, none⟩ ∧ b < w.heap.size ∧ ∀ i, i < rs.length → w.cell? ⟨b, o + i * 2, none⟩ = some (.string (rs.getD i (ByteArray.empty, ByteArray.empty)).1) ∧ w.cell? ⟨b, o + i * 2 + 1, none⟩ = some (.string (rs.getD i (ByteArray.empty, ByteArray.empty)).2)
theorem Prs.below {w w' : World} {a : Option Addr} {rs : List (ByteArray × ByteArray)} (h : Prs w a rs) (hb : Below w.heap.size w w') : Prs w' a rs := by
  rcases h with h | ⟨b, o, h1, h2, h3⟩
  · exact .inl h
  · exact .inr ⟨b, o, h1, Nat.lt_of_lt_of_le h2 hb.size, fun i hi => ⟨(hb.cell (p := ⟨b, o + i * 2, none⟩) h2).trans (h3 i hi).1, (hb.cell (p := ⟨b, o + i * 2 + 1, none⟩) h2).trans (h3 i hi).2⟩⟩
theorem Prs.at {w : World} {a : Option Addr} {rs : List (ByteArray × ByteArray)} (h : Prs w a rs) {k : Nat} (hk : k < rs.length) : ∃ b o s0 s1, a = some ⟨b, o, none⟩ ∧ w.cell? ⟨b, o + k * 2, none⟩ = some (.string s0) ∧ w.cell? ⟨b, o + k * 2 + 1, none⟩ = some (.string s1) ∧ Hid ((s0, s1) = rs.getD k (ByteArray.empty, ByteArray.empty)) := by
  rcases h with h | ⟨b, o, h1, h2, h3⟩
  · subst h; simp at hk
  · exact ⟨b, o, _, _, h1, (h3 k hk).1, (h3 k hk).2, hid rfl⟩
/-- The cells of records. -/
def prcells (rs : List (ByteArray × ByteArray)) : List Value := rs.flatMap fun x => [.string x.1, .string x.2]
theorem prcells_nil : prcells [] = [] := rfl
theorem prcells_append (a b : List (ByteArray × ByteArray)) : prcells (a ++ b) = prcells a ++ prcells b := by simp [prcells]
theorem prcells_length (rs : List (ByteArray × ByteArray)) : (prcells rs).length = rs.length * 2 := by
  induction rs with
  | nil => rfl
  | cons x r ih => simp [prcells] at ih ⊢; omega
theorem prcells_at : ∀ (rs : List (ByteArray × ByteArray)) (i : Nat), i < rs.length → (prcells rs)[i * 2]? = some (.string (rs.getD i (ByteArray.empty, ByteArray.empty)).1) ∧ (prcells rs)[i * 2 + 1]? = some (.string (rs.getD i (ByteArray.empty, ByteArray.empty)).2)
  | x :: r, 0, _ => by simp [prcells]
  | x :: r, i + 1, h => by
    have ih := prcells_at r i (by simpa using h)
    have e : prcells (x :: r) = .string x.1 :: .string x.2 :: prcells r := by simp [prcells]
    rw [e, show (i + 1) * 2 = i * 2 + 2 by omega]
    simpa using ih
theorem Row.prs {w : World} {g : Nat} {rs : List (ByteArray × ByteArray)} (h : Row w g (prcells rs)) : Prs w (some ⟨g, 0, none⟩) rs :=
  .inr ⟨g, 0, rfl, h.lt, fun i hi => by
    rw [Nat.zero_add]
    exact ⟨h.cell _ _ (prcells_at rs i hi).1, h.cell _ _ (prcells_at rs i hi).2⟩⟩
def prupTo (rs : List (ByteArray × ByteArray)) (k : Nat) : List Value := prcells (rs.take k) ++ prcells (List.replicate (rs.length - k) (ByteArray.empty, ByteArray.empty))
theorem prupTo_length (rs : List (ByteArray × ByteArray)) (k : Nat) (h : k ≤ rs.length) : (prupTo rs k).length = rs.length * 2 := by simp [prupTo, prcells_length]; omega
theorem prupTo_all (rs : List (ByteArray × ByteArray)) (k : Nat) (h : rs.length ≤ k) : prupTo rs k = prcells rs := by
  unfold prupTo; rw [List.take_of_length_le h, show rs.length - k = 0 by omega]; simp [prcells]
theorem prupTo_set (rs : List (ByteArray × ByteArray)) (k : Nat) (h : k < rs.length) : ((prupTo rs k).set (k * 2) (.string (rs.getD k (ByteArray.empty, ByteArray.empty)).1)).set (k * 2 + 1) (.string (rs.getD k (ByteArray.empty, ByteArray.empty)).2) = prupTo rs (k + 1) := by
  unfold prupTo
  have el : (prcells (rs.take k)).length = k * 2 := by rw [prcells_length]; simp; omega
  rw [List.set_append_right _ _ (by omega), List.set_append_right _ _ (by omega), el, show k * 2 - k * 2 = 0 by omega, show k * 2 + 1 - k * 2 = 1 by omega,
    show rs.length - k = (rs.length - (k + 1)) + 1 by omega, List.replicate_succ, List.take_succ_eq_append_getElem h, prcells_append, List.append_assoc]
  congr 1
  simp [prcells, List.getD, h]
theorem made_prs : ∀ (n : Nat), (madeCells (Value.agg #[.string ByteArray.empty, .string ByteArray.empty]).cells (n * 2)).toList = prcells (List.replicate n (ByteArray.empty, ByteArray.empty))
  | 0 => by simp [madeCells, prcells]
  | n + 1 => by
    have ih := made_prs n
    unfold madeCells at ih ⊢
    rw [Array.toList_map, Array.toList_range] at ih ⊢
    rw [show (n + 1) * 2 = n * 2 + 1 + 1 by omega, List.range_succ, List.range_succ, List.map_append, List.map_append, ih, List.replicate_succ', prcells_append, List.append_assoc]
    congr 1
    have e0 : (n * 2) % (Value.agg #[.string ByteArray.empty, .string ByteArray.empty]).cells.size = 0 := by simp [Value.cells] <;> omega
    have e1 : (n * 2 + 1) % (Value.agg #[.string ByteArray.empty, .string ByteArray.empty]).cells.size = 1 := by simp [Value.cells] <;> omega
    simp only [List.map_cons, List.map_nil]
    rw [e0, e1]
    rfl
/-- The sizes that are counted of a record. -/
def prsz (x : ByteArray × ByteArray) : List Nat := [x.1.size, x.2.size]
end Go.Proofs.Ytnmaknnnmjfhkad
