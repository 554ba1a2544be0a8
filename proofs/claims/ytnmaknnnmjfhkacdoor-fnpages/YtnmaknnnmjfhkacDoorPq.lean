import Derived.Test.YtnmaknnnmjfhkacDoorRpP
namespace Go.Proofs.YtnmaknnnmjfhkacDoor
open Go.RowKit
set_option linter.unusedVariables false
set_option linter.unusedSimpArgs false
theorem numOf_be1 (v : Int) (h0 : 0 ≤ v) (h1 : v < 256) : numOf (be 1 v) = v := by
  simp [be, List.range_succ, sh, numOf]
  omega
theorem numOf_be2 (v : Int) (h0 : 0 ≤ v) (h1 : v < 65536) : numOf (be 2 v) = v := by
  simp [be, List.range_succ, sh, numOf]
  omega
theorem numOf_be4 (v : Int) (h0 : 0 ≤ v) (h1 : v < 4294967296) : numOf (be 4 v) = v := by
  simp [be, List.range_succ, sh, numOf]
  omega
/-- The fields of any text that ends in a page's body. -/
theorem tail_fields (k l m : Int) (p : ByteArray) (n : Nat) (s : ByteArray) (hs : s.size = 64) (hn : n ≤ 8) (hp : p.size + n ≤ 56) (hk0 : 0 ≤ k) (hk1 : k < 256) (hl0 : 0 ≤ l) (hl1 : l < 65536) (hm0 : 0 ≤ m) (hm1 : m < 4294967296)
    (hb : (nums s).drop n = pageBody k l m p n) {b : ByteArray} (he : b = s.extract n 64) : rpN b = p.size ∧ rpK b = k ∧ rpL b = l ∧ rpM b = m ∧ rpP b = p := by
  obtain ⟨fN, fK, fL, fM, fP⟩ := rp_fields s n hs hn he
  have d : ∀ i, (nums s).drop (n + i) = (pageBody k l m p n).drop i := fun i => by rw [← hb, List.drop_drop]
  have l1 : (be 1 k).length = 1 := be_length _ _
  have l2 : (be 2 l).length = 2 := be_length _ _
  have l3 : (be 4 m).length = 4 := be_length _ _
  have l4 : (be 1 (p.size : Int)).length = 1 := be_length _ _
  have l5 : (nums p).length = p.size := nums_length p
  have eb : pageBody k l m p n = be 1 k ++ (be 2 l ++ (be 4 m ++ (be 1 (p.size : Int) ++ (nums p ++ List.replicate (56 - n - p.size) 0)))) := by
    unfold pageBody pageHead
    simp only [List.append_assoc]
  have d0 := d 0
  rw [Nat.add_zero, List.drop_zero] at d0
  have e1 : (pageBody k l m p n).drop 1 = be 2 l ++ (be 4 m ++ (be 1 (p.size : Int) ++ (nums p ++ List.replicate (56 - n - p.size) 0))) := by rw [eb, List.drop_left' l1]
  have e3 : (pageBody k l m p n).drop 3 = be 4 m ++ (be 1 (p.size : Int) ++ (nums p ++ List.replicate (56 - n - p.size) 0)) := by
    have : (pageBody k l m p n).drop 3 = ((pageBody k l m p n).drop 1).drop 2 := by rw [List.drop_drop]
    rw [this, e1, List.drop_left' l2]
  have e7 : (pageBody k l m p n).drop 7 = be 1 (p.size : Int) ++ (nums p ++ List.replicate (56 - n - p.size) 0) := by
    have : (pageBody k l m p n).drop 7 = ((pageBody k l m p n).drop 3).drop 4 := by rw [List.drop_drop]
    rw [this, e3, List.drop_left' l3]
  have e8 : (pageBody k l m p n).drop 8 = nums p ++ List.replicate (56 - n - p.size) 0 := by
    have : (pageBody k l m p n).drop 8 = ((pageBody k l m p n).drop 7).drop 1 := by rw [List.drop_drop]
    rw [this, e7, List.drop_left' l4]
  rw [d 7, e7, List.take_left' l4, numOf_be1 _ (by omega) (by omega)] at fN
  have hN : rpN b = p.size := by omega
  rw [d0, eb, List.take_left' l1, numOf_be1 _ hk0 hk1] at fK
  rw [d 1, e1, List.take_left' l2, numOf_be2 _ hl0 hl1] at fL
  rw [d 3, e3, List.take_left' l3, numOf_be4 _ hm0 hm1] at fM
  rw [d 8, e8, hN, List.take_left' l5, strOfNums_nums] at fP
  exact ⟨hN, fK, fL, fM, fP⟩
theorem form_drop (k l m : Int) (p : ByteArray) (n : Nat) : (nums (pageForm k l m p n)).drop n = pageBody k l m p n := by
  unfold pageForm
  rw [nums_append, List.drop_left' (by rw [nums_length, sumN_size]), nums_strOfNums _ (body_bytes k l m p n)]
/-- ReadPage of FormPage is the page. -/
theorem rp_form (k l m : Int) (p : ByteArray) (n : Nat) (hok : pageOk k l m p (n : Int) = true) : rpRes (pageForm k l m p n) (n : Int) = some (k, l, m, p) := by
  have hd := of_decide_eq_true (by unfold pageOk at hok; exact hok)
  obtain ⟨h1, h2, h3, h4, h5, h6, h7, h8, h9, _⟩ := hd
  have hs := pageForm_size k l m p n (by omega)
  obtain ⟨a, b, c, d, e⟩ := tail_fields k l m p n _ hs (by omega) (by omega) (by omega) (by omega) (by omega) (by omega) (by omega) (by omega) (form_drop k l m p n) rfl
  unfold rpRes
  rw [Int.toNat_natCast, a, b, c, d, e]
  have hf : formOf k l m p (n : Int) = pageForm k l m p n := by unfold formOf; rw [hok, if_pos rfl, Int.toNat_natCast]
  rw [if_pos ⟨h1, h2, hs, by omega, hf⟩]
/-- A text with the same body and another sum is not read. -/
theorem rp_bent (k l m : Int) (p : ByteArray) (n : Nat) (hok : pageOk k l m p (n : Int) = true) (s : ByteArray) (hb : (nums s).drop n = pageBody k l m p n) (hne : s ≠ pageForm k l m p n) : rpRes s (n : Int) = none := by
  have hd := of_decide_eq_true (by unfold pageOk at hok; exact hok)
  obtain ⟨h1, h2, h3, h4, h5, h6, h7, h8, h9, _⟩ := hd
  apply rpRes_no
  rintro ⟨_, _, hs, _, hf⟩
  rw [Int.toNat_natCast] at hf
  obtain ⟨a, b, c, d, e⟩ := tail_fields k l m p n s hs (by omega) (by omega) (by omega) (by omega) (by omega) (by omega) (by omega) (by omega) hb rfl
  rw [b, c, d, e] at hf
  have hg : formOf k l m p (n : Int) = pageForm k l m p n := by unfold formOf; rw [hok, if_pos rfl, Int.toNat_natCast]
  exact hne (hf.symm.trans hg)
theorem eq_of_nums {a b : ByteArray} (h : nums a = nums b) : a = b := by rw [← strOfNums_nums a, h, strOfNums_nums]
/-- The sum of a form and what it is over. -/
theorem form_parts (k l m : Int) (p : ByteArray) (n : Nat) (h : p.size + n ≤ 56) : (pageForm k l m p n).extract n 64 = strOfNums (pageBody k l m p n) ∧ (pageForm k l m p n).extract 0 n = sumN (strOfNums (pageBody k l m p n)) n := by
  have hs := pageForm_size k l m p n h
  have ll : (nums (pageForm k l m p n)).length = 64 := by rw [nums_length, hs]
  constructor
  · apply eq_of_nums
    rw [nums_extract, List.take_of_length_le (by omega), form_drop, nums_strOfNums _ (body_bytes k l m p n)]
  · apply eq_of_nums
    rw [nums_extract, List.drop_zero]
    unfold pageForm
    rw [nums_append, List.take_left' (by rw [nums_length, sumN_size])]
end Go.Proofs.YtnmaknnnmjfhkacDoor
