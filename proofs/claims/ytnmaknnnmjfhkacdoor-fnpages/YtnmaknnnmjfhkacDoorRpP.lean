import Derived.Test.YtnmaknnnmjfhkacDoorRpS
namespace Go.Proofs.YtnmaknnnmjfhkacDoor
open Go.RowKit
set_option maxRecDepth 4000
set_option linter.unusedVariables false
set_option linter.unusedSimpArgs false
theorem nums_range' (r : ByteArray) : ∀ y ∈ nums r, 0 ≤ y ∧ y ≤ 255 := by
  intro y hy
  unfold nums at hy
  obtain ⟨c, _, rfl⟩ := List.mem_map.1 hy
  have := UInt8.toNat_lt c
  omega
theorem nums_extract (b : ByteArray) (i j : Nat) : nums (b.extract i j) = ((nums b).take j).drop i := by
  unfold nums
  rw [← List.map_take, ← List.map_drop, ByteArray.data_extract, Array.toList_extract]
  simp [List.extract, List.drop_take]
theorem numOf_rng : ∀ (k : Nat) (ys : List Int), ys.length = k → (∀ y ∈ ys, 0 ≤ y ∧ y ≤ 255) → 0 ≤ numOf ys ∧ numOf ys < (256 : Int) ^ k := by
  intro k
  induction k with
  | zero => intro ys hl _; have : ys = [] := List.eq_nil_of_length_eq_zero hl; subst this; simp [numOf]
  | succ k ih =>
    intro ys hl hy
    have hne : ys ≠ [] := by intro h; subst h; simp at hl
    have hd := List.dropLast_concat_getLast hne
    have h1 := ih ys.dropLast (by simp; omega) (fun y h => hy y (List.dropLast_subset _ h))
    have h2 := hy _ (List.getLast_mem hne)
    rw [← hd, numOf_snoc, Int.pow_succ]
    omega
theorem numOf_one (y : Int) : numOf [y] = y := by simp [numOf]
/-- The fields of the page that a text would be, out of its bytes. -/
theorem rp_fields (s : ByteArray) (n : Nat) (hs : s.size = 64) (h2 : n ≤ 8) {b : ByteArray} (hb : b = s.extract n 64) :
    (rpN b : Int) = numOf (((nums s).drop (n + 7)).take 1) ∧ rpK b = numOf (((nums s).drop n).take 1) ∧ rpL b = numOf (((nums s).drop (n + 1)).take 2) ∧ rpM b = numOf (((nums s).drop (n + 3)).take 4) ∧ rpP b = strOfNums (((nums s).drop (n + 8)).take (rpN b)) := by
  have hn : nums b = (nums s).drop n := by rw [hb, nums_extract, List.take_of_length_le (by rw [nums_length]; omega)]
  have hbz : b.data.toList.length = 64 - n := by have := nums_length s; have h := congrArg List.length hn; rw [List.length_drop, nums_length, nums_length, hs] at h; exact h
  have one : ∀ i, i < 64 - n → numOf (((nums s).drop (n + i)).take 1) = ((b.data.toList.getD i 0).toNat : Int) := fun i hi => by
    rw [← List.drop_drop, ← hn]
    unfold nums
    rw [← List.map_drop, ← List.map_take, List.drop_eq_getElem_cons (by omega)]
    simp only [List.take_succ_cons, List.take_zero, List.map_cons, List.map_nil, numOf_one]
    rw [List.getD_eq_getElem?_getD, List.getElem?_eq_getElem (by omega)]
    rfl
  refine ⟨?_, ?_, ?_, ?_, ?_⟩
  · rw [one 7 (by omega)]; rfl
  · have := one 0 (by omega); rw [Nat.add_zero] at this; rw [this]; rfl
  · unfold rpL; rw [nums_extract, hn]; simp [List.drop_take, List.drop_drop]
  · unfold rpM; rw [nums_extract, hn]; simp [List.drop_take, List.drop_drop]
  · unfold rpP
    rw [← strOfNums_nums (b.extract 8 (8 + rpN b)), nums_extract, hn]
    simp [List.drop_take, List.drop_drop]
end Go.Proofs.YtnmaknnnmjfhkacDoor
