import Derived.Test.YtnmaknnnmjfhkaeDoorQxScanRpS
import Derived.Test.YtnmaknnnmjfhkaeDoorQxScanPage3

set_option maxHeartbeats 16000000
set_option maxRecDepth 8000
namespace Go.Proofs.YtnmaknnnmjfhkaeDoor
open Go.RowKit
set_option maxRecDepth 4000
set_option linter.unusedVariables false
set_option linter.unusedSimpArgs false
theorem nums_range' (r : ByteArray) : ∀ y ∈ nums r, 0 ≤ y ∧ y ≤ 255 := by
  intro y hy
  unfold nums at hy
  obtain ⟨c, _, rfl⟩ := List.mem_map.1 hy
  have := UInt8.toNat_lt c
  omega
theorem nums_extract (b : ByteArray) (i j : Nat) : nums (b.extract i j) = ((nums b).take j).drop i := by
  unfold nums
  rw [← List.map_take, ← List.map_drop, ByteArray.data_extract, Array.toList_extract]
  simp [List.extract, List.drop_take]
theorem numOf_rng : ∀ (k : Nat) (ys : List Int), ys.length = k → (∀ y ∈ ys, 0 ≤ y ∧ y ≤ 255) → 0 ≤ numOf ys ∧ numOf ys < (256 : Int) ^ k := by
  intro k
  induction k with
  | zero => intro ys hl _; have : ys = [] := List.eq_nil_of_length_eq_zero hl; subst this; simp [numOf]
  | succ k ih =>
    intro ys hl hy
    have hne : ys ≠ [] := by intro h; subst h; simp at hl
    have hd := List.dropLast_concat_getLast hne
    have h1 := ih ys.dropLast (by simp; omega) (fun y h => hy y (List.dropLast_subset _ h))
    have h2 := hy _ (List.getLast_mem hne)
    rw [← hd, numOf_snoc, Int.pow_succ]
    omega
theorem numOf_one (y : Int) : numOf [y] = y := by simp [numOf]
/-- The fields of the page that a text would be, out of its bytes. -/
theorem rp_fields (s : ByteArray) (n : Nat) (hs : s.size = 64) (h2 : n ≤ 8) {b : ByteArray} (hb : b = s.extract n 64) :
    (rpN b : Int) = numOf (((nums s).drop (n + 7)).take 1) ∧ rpK b = numOf (((nums s).drop n).take 1) ∧ rpL b = numOf (((nums s).drop (n + 1)).take 2) ∧ rpM b = numOf (((nums s).drop (n + 3)).take 4) ∧ rpP b = strOfNums (((nums s).drop (n + 8)).take (rpN b)) := by
  have hn : nums b = (nums s).drop n := by rw [hb, nums_extract, List.take_of_length_le (by rw [nums_length]; omega)]
  have hbz : b.data.toList.length = 64 - n := by have := nums_length s; have h := congrArg List.length hn; rw [List.length_drop, nums_length, nums_length, hs] at h; exact h
  have one : ∀ i, i < 64 - n → numOf (((nums s).drop (n + i)).take 1) = ((b.data.toList.getD i 0).toNat : Int) := fun i hi => by
    rw [← List.drop_drop, ← hn]
    unfold nums
    rw [← List.map_drop, ← List.map_take, List.drop_eq_getElem_cons (by omega)]
    simp only [List.take_succ_cons, List.take_zero, List.map_cons, List.map_nil, numOf_one]
    rw [List.getD_eq_getElem?_getD, List.getElem?_eq_getElem (by omega)]
    rfl
  refine ⟨?_, ?_, ?_, ?_, ?_⟩
  · rw [one 7 (by omega)]; rfl
  · have := one 0 (by omega); rw [Nat.add_zero] at this; rw [this]; rfl
  · unfold rpL; rw [nums_extract, hn]; simp [List.drop_take, List.drop_drop]
  · unfold rpM; rw [nums_extract, hn]; simp [List.drop_take, List.drop_drop]
  · unfold rpP
    rw [← strOfNums_nums (b.extract 8 (8 + rpN b)), nums_extract, hn]
    simp [List.drop_take, List.drop_drop]
end Go.Proofs.YtnmaknnnmjfhkaeDoor

namespace Go.Proofs.YtnmaknnnmjfhkaeDoor
open Go.RowKit
theorem form_i_no (k l m : Int) (p : ByteArray) (n : Int) (w : World) (hp : p.size ≤ 1048576) (hok : pageOk k l m p n = false) :
    Calls Tryd.prog 15 #[pageV k l m p, .int .i64 n] w fun e w' => e = .returned (.string ByteArray.empty) ∧ Below w.heap.size w w' := by
  go_enter Tryd.func15, Tryd.ntmps15
  go_wp2_with (go_at_call 50; refine (ok_i k l m p n _ hp).mono ?_; rw [hok]; rintro e w1 ⟨rfl, hb1⟩)
  go_ret
  exact ⟨rfl, ((Below.refl _ _).alloc (Nat.le_refl _) _).trans (hb1.mono (by simp))⟩

set_option maxRecDepth 4000 in
set_option maxHeartbeats 16000000 in
theorem form_i (k l m : Int) (p : ByteArray) (n : Nat) (w : World) (hok : pageOk k l m p n = true) :
    Calls Tryd.prog 15 #[pageV k l m p, .int .i64 (n : Int)] w fun e w' => e = .returned (.string (pageForm k l m p n)) ∧ Below w.heap.size w w' := by
  have hok' := of_decide_eq_true (by unfold pageOk at hok; exact hok)
  obtain ⟨hn1, hn2, hk1, hk2, hl1, hl2, hm1, hm2, hp, _⟩ := hok'
  go_enter Tryd.func15, Tryd.ntmps15
  go_wp2_with (go_at_call 50; refine (ok_i k l m p n _ (by omega)).mono ?_; rw [hok]; rintro e w1 ⟨rfl, hb1⟩; obtain ⟨q, q0, q1, q2, q3, hb2⟩ := keep4 (W := w) (v0 := .int .i64 k) (v1 := .int .i64 l) (v2 := .int .i64 m) (v3 := .string p) hb1 ⟨by simp, by simp, by simp, by simp, by simp, (Below.refl _ _).alloc (Nat.le_refl _) _⟩; clear hb1)
  refine (fill_i k l m p n _ hok).mono ?_
  rintro e w2 ⟨rfl, hb3⟩
  clear q q0 q1 q2 q3
  have hb4 := hb2.trans (hb3.mono hb2.size)
  clear hb2 hb3
  obtain ⟨xs, HX⟩ : ∃ xs, Hid (xs = nums (pageForm k l m p n)) := ⟨_, hide rfl⟩
  have hln : xs.length = 64 := by rw [HX.out, nums_length]; exact pageForm_size k l m p n (by omega)
  have hsz : (xs.map (Value.int .u8)).toArray.size = 64 := by simp [hln]
  rw [← HX.out]
  go_wp2_with (refine wpList_store_new rfl 98 _ _ rfl xs rfl rfl _ _ (.int .u8 0) (by rw [hln]; rfl) (by rw [hln]; kernel_rfl) ?_; intro wx hfm hbx _; have hcv := hfm.text (P := Tryd.prog) 22 5 9 Tryd.underlying22 Tryd.underlying5 Tryd.underlying9 0 64 64 (by omega); rw [List.drop_zero, List.take_of_length_le (by omega)] at hcv; clear hfm)
  go_ret
  refine ⟨ret_str ?_, hb4.trans (hbx.mono hb4.size)⟩
  rw [HX.out, strOfNums_nums]

theorem form_i_any (k l m : Int) (p : ByteArray) (n : Int) (w : World) (hp : p.size ≤ 1048576) :
    Calls Tryd.prog 15 #[pageV k l m p, .int .i64 n] w fun e w' => e = .returned (.string (formOf k l m p n)) ∧ Below w.heap.size w w' := by
  unfold formOf
  cases h : pageOk k l m p n with
  | true =>
    have hd := of_decide_eq_true (by unfold pageOk at h; exact h)
    have hn : 1 ≤ n := hd.1
    obtain ⟨j, rfl⟩ : ∃ j : Nat, n = (j : Int) := ⟨n.toNat, by omega⟩
    rw [if_pos rfl, Int.toNat_natCast]
    exact form_i k l m p j w h
  | false => rw [if_neg (by simp)]; exact form_i_no k l m p n w hp h
end Go.Proofs.YtnmaknnnmjfhkaeDoor
