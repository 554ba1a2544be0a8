import Derived.Test.YtnmaknnnmjfhkadRow
namespace Go.Proofs.Ytnmaknnnmjfhkad
open Go.RowKit

abbrev ChT := ByteArray × ByteArray × Bool
/-- Records in a row of memory. -/
def Chs (w : World) (a : Option Addr) (rs : List (ByteArray × ByteArray × Bool)) : Prop :=
  rs = [] ∨ ∃ b o, a = some ⟨b, o, none⟩ ∧ b < w.heap.size ∧ ∀ i, i < rs.length → w.cell? ⟨b, o + i * 3, none⟩ = some (.string (rs.getD i (ByteArray.empty, ByteArray.empty, false)).1) ∧ w.cell? ⟨b, o + i * 3 + 1, none⟩ = some (.string (rs.getD i (ByteArray.empty, ByteArray.empty, false)).2.1) ∧ w.cell? ⟨b, o + i * 3 + 2, none⟩ = some (.bool (rs.getD i (ByteArray.empty, ByteArray.empty, false)).2.2)
theorem Chs.below {w w' : World} {a : Option Addr} {rs : List (ByteArray × ByteArray × Bool)} (h : Chs w a rs) (hb : Below w.heap.size w w') : Chs w' a rs := by
  rcases h with h | ⟨b, o, h1, h2, h3⟩
  · exact .inl h
  · exact .inr ⟨b, o, h1, Nat.lt_of_lt_of_le h2 hb.size, fun i hi => ⟨(hb.cell (p := ⟨b, o + i * 3, none⟩) h2).trans (h3 i hi).1, (hb.cell (p := ⟨b, o + i * 3 + 1, none⟩) h2).trans (h3 i hi).2.1, (hb.cell (p := ⟨b, o + i * 3 + 2, none⟩) h2).trans (h3 i hi).2.2⟩⟩
theorem Chs.at {w : World} {a : Option Addr} {rs : List (ByteArray × ByteArray × Bool)} (h : Chs w a rs) {k : Nat} (hk : k < rs.length) : ∃ b o s0 s1 g2, a = some ⟨b, o, none⟩ ∧ w.cell? ⟨b, o + k * 3, none⟩ = some (.string s0) ∧ w.cell? ⟨b, o + k * 3 + 1, none⟩ = some (.string s1) ∧ w.cell? ⟨b, o + k * 3 + 2, none⟩ = some (.bool g2) ∧ Hid ((s0, s1, g2) = rs.getD k (ByteArray.empty, ByteArray.empty, false)) := by
  rcases h with h | ⟨b, o, h1, h2, h3⟩
  · subst h; simp at hk
  · exact ⟨b, o, _, _, _, h1, (h3 k hk).1, (h3 k hk).2.1, (h3 k hk).2.2, hid rfl⟩
/-- The cells of records. -/
def chcells (rs : List (ByteArray × ByteArray × Bool)) : List Value := rs.flatMap fun x => [.string x.1, .string x.2.1, .bool x.2.2]
theorem chcells_nil : chcells [] = [] := rfl
theorem chcells_append (a b : List (ByteArray × ByteArray × Bool)) : chcells (a ++ b) = chcells a ++ chcells b := by simp [chcells]
theorem chcells_length (rs : List (ByteArray × ByteArray × Bool)) : (chcells rs).length = rs.length * 3 := by
  induction rs with
  | nil => rfl
  | cons x r ih => simp [chcells] at ih ⊢; omega
theorem chcells_at : ∀ (rs : List (ByteArray × ByteArray × Bool)) (i : Nat), i < rs.length → (chcells rs)[i * 3]? = some (.string (rs.getD i (ByteArray.empty, ByteArray.empty, false)).1) ∧ (chcells rs)[i * 3 + 1]? = some (.string (rs.getD i (ByteArray.empty, ByteArray.empty, false)).2.1) ∧ (chcells rs)[i * 3 + 2]? = some (.bool (rs.getD i (ByteArray.empty, ByteArray.empty, false)).2.2)
  | x :: r, 0, _ => by simp [chcells]
  | x :: r, i + 1, h => by
    have ih := chcells_at r i (by simpa using h)
    have e : chcells (x :: r) = .string x.1 :: .string x.2.1 :: .bool x.2.2 :: chcells r := by simp [chcells]
    rw [e, show (i + 1) * 3 = i * 3 + 3 by omega]
    simpa using ih
theorem Row.chs {w : World} {g : Nat} {rs : List (ByteArray × ByteArray × Bool)} (h : Row w g (chcells rs)) : Chs w (some ⟨g, 0, none⟩) rs :=
  .inr ⟨g, 0, rfl, h.lt, fun i hi => by
    rw [Nat.zero_add]
    exact ⟨h.cell _ _ (chcells_at rs i hi).1, h.cell _ _ (chcells_at rs i hi).2.1, h.cell _ _ (chcells_at rs i hi).2.2⟩⟩
def chupTo (rs : List (ByteArray × ByteArray × Bool)) (k : Nat) : List Value := chcells (rs.take k) ++ chcells (List.replicate (rs.length - k) (ByteArray.empty, ByteArray.empty, false))
theorem chupTo_length (rs : List (ByteArray × ByteArray × Bool)) (k : Nat) (h : k ≤ rs.length) : (chupTo rs k).length = rs.length * 3 := by simp [chupTo, chcells_length]; omega
theorem chupTo_all (rs : List (ByteArray × ByteArray × Bool)) (k : Nat) (h : rs.length ≤ k) : chupTo rs k = chcells rs := by
  unfold chupTo; rw [List.take_of_length_le h, show rs.length - k = 0 by omega]; simp [chcells]
theorem chupTo_set (rs : List (ByteArray × ByteArray × Bool)) (k : Nat) (h : k < rs.length) : (((chupTo rs k).set (k * 3) (.string (rs.getD k (ByteArray.empty, ByteArray.empty, false)).1)).set (k * 3 + 1) (.string (rs.getD k (ByteArray.empty, ByteArray.empty, false)).2.1)).set (k * 3 + 2) (.bool (rs.getD k (ByteArray.empty, ByteArray.empty, false)).2.2) = chupTo rs (k + 1) := by
  unfold chupTo
  have el : (chcells (rs.take k)).length = k * 3 := by rw [chcells_length]; simp; omega
  rw [List.set_append_right _ _ (by omega), List.set_append_right _ _ (by omega), List.set_append_right _ _ (by omega), el, show k * 3 - k * 3 = 0 by omega, show k * 3 + 1 - k * 3 = 1 by omega, show k * 3 + 2 - k * 3 = 2 by omega,
    show rs.length - k = (rs.length - (k + 1)) + 1 by omega, List.replicate_succ, List.take_succ_eq_append_getElem h, chcells_append, List.append_assoc]
  congr 1
  simp [chcells, List.getD, h]
theorem made_chs : ∀ (n : Nat), (madeCells (Value.agg #[.string ByteArray.empty, .string ByteArray.empty, .bool false]).cells (n * 3)).toList = chcells (List.replicate n (ByteArray.empty, ByteArray.empty, false))
  | 0 => by simp [madeCells, chcells]
  | n + 1 => by
    have ih := made_chs n
    unfold madeCells at ih ⊢
    rw [Array.toList_map, Array.toList_range] at ih ⊢
    rw [show (n + 1) * 3 = n * 3 + 1 + 1 + 1 by omega, List.range_succ, List.range_succ, List.range_succ, List.map_append, List.map_append, List.map_append, ih, List.replicate_succ', chcells_append, List.append_assoc, List.append_assoc]
    congr 1
    have e0 : (n * 3) % (Value.agg #[.string ByteArray.empty, .string ByteArray.empty, .bool false]).cells.size = 0 := by simp [Value.cells] <;> omega
    have e1 : (n * 3 + 1) % (Value.agg #[.string ByteArray.empty, .string ByteArray.empty, .bool false]).cells.size = 1 := by simp [Value.cells] <;> omega
    have e2 : (n * 3 + 1 + 1) % (Value.agg #[.string ByteArray.empty, .string ByteArray.empty, .bool false]).cells.size = 2 := by simp [Value.cells] <;> omega
    simp only [List.map_cons, List.map_nil]
    rw [e0, e1, e2]
    rfl
/-- The sizes that are counted of a record. -/
def chsz (x : ByteArray × ByteArray × Bool) : List Nat := [x.1.size, x.2.1.size]
end Go.Proofs.Ytnmaknnnmjfhkad
