import Derived.Test.YtnmaknnnmjfhkafGreatDoorMgXForged39
import Derived.Test.YtnmaknnnmjfhkafGreatDoorQxForgedPage3
import Derived.Test.YtnmaknnnmjfhkafGreatDoorQxForgedRpS
import Derived.Laws.Bits64b
import Derived.Test.YtnmaknnnmjfhkafGreatDoorMgXForged0
import Derived.ChangeKeysEq

set_option maxHeartbeats 16000000
set_option maxRecDepth 8000
namespace Go.Proofs.YtnmaknnnmjfhkafGreatDoor
open Go.RowKit
set_option maxRecDepth 4000
set_option linter.unusedVariables false
set_option linter.unusedSimpArgs false

theorem or_step (y b : Int) (hy0 : 0 ≤ y) (hy1 : y ≤ 1099511627776) (hb0 : 0 ≤ b) (hb1 : b ≤ 255) : bits .or .u64 (IntKind.u64.wrap (y * 256)) (IntKind.u64.wrap b) = y * 256 + b := by
  rw [wrap_u64_id _ (by omega) (by omega), wrap_u64_id _ (by omega) (by omega)]
  obtain ⟨Y, rfl⟩ : ∃ Y : Nat, y = (Y : Int) := ⟨y.toNat, by omega⟩
  obtain ⟨C, rfl⟩ : ∃ C : Nat, b = (C : Int) := ⟨b.toNat, by omega⟩
  have e : ((Y : Int) * 256) = ((256 * Y : Nat) : Int) := by omega
  rw [e, bits_or_u64_nat _ _ (by omega) (by omega)]
  have := Nat.two_pow_add_eq_or_of_lt (i := 8) (b := C) (by omega) Y
  simp only [Nat.reducePow] at this
  rw [← this]
  omega
theorem nopage_i (s : ByteArray) (ty : TypeId) (v : Value) (w : World) (hv : w.cell? ⟨1, 0, none⟩ = some (.iface ty v)) : Calls Tryz.prog 110 #[.string s] w fun e w' => e = .returned (.iface 131 (.pointer (some ⟨w.heap.size, 0, none⟩))) ∧ w' = w.alloc (.cells #[.string s, .iface ty v] 217) := by
  go_enter Tryz.func110, Tryz.ntmps110
  go_wp2
  go_ret
  exact ⟨rfl, rfl⟩

theorem take_i (F o : Nat) (ys : List Int) (c : Nat) (w : World) (hr : ∀ y ∈ ys, 0 ≤ y ∧ y ≤ 255) (hl : ys.length ≤ 4) (hc : ∀ i, i < ys.length → w.cell? ⟨F, o + i, none⟩ = some (.int .u8 (ys.getD i 0))) : Calls Tryz.prog 111 #[.slice (some ⟨F, o, none⟩) ys.length c] w fun e w' => e = .returned (.int .u64 (numOf ys)) ∧ w' = w := by
  have HC := hid0 hc
  clear hc
  go_enter Tryz.func111, Tryz.ntmps111
  go_wp2
  go_loop [3, 5, 8] (fun x _ i => ∃ (k : Nat) (y : Int), k ≤ ys.length ∧ i = .int .i64 (k : Int) ∧ x = .int .u64 y ∧ Hid (y = numOf (ys.take k)) ∧ 0 ≤ y ∧ Hid (y < (256 : Int) ^ k)) (fun _ _ i => ys.length - (intOf i).toNat)
  case atStart => exact ⟨0, 0, Nat.zero_le _, rfl, rfl, by show _ = _; simp [numOf], by omega, by show _ < _; simp⟩
  case round =>
    obtain ⟨k, y, hk, rfl, rfl, HY, hy0, HY1⟩ := hrel
    by_cases hlt : k < ys.length
    · have hck := HC.out k hlt
      obtain ⟨b, hb⟩ : ∃ b, ys.getD k 0 = b := ⟨_, rfl⟩
      rw [hb] at hck
      obtain ⟨hb0, hb1⟩ : 0 ≤ b ∧ b ≤ 255 := by rw [← hb]; exact hr _ (by simp [List.getD, hlt])
      have hlt' : (k : Int) < (ys.length : Int) := by omega
      have h256 : (256 : Int) ^ k ≤ 16777216 := by
        have : k = 0 ∨ k = 1 ∨ k = 2 ∨ k = 3 := by omega
        rcases this with h | h | h | h <;> rw [h] <;> decide
      have HN : Hid (y * 256 + b = numOf (ys.take (k + 1))) := by
        show _ = _
        rw [List.take_succ_eq_append_getElem hlt, numOf_snoc, ← HY.out, ← hb]
        simp [List.getD, hlt]
      have hst := or_step y b hy0 (by have := HY1.out; omega) hb0 hb1
      have HST : Hid (bits .or .u64 (IntKind.u64.wrap (y * 256)) b = y * 256 + b) := by show _ = _; rw [wrap_u64_id b (by omega) (by omega)] at hst; exact hst
      have hb2 : 0 ≤ y * 256 + b := by omega
      clear hst
      have H3 : Hid (y * 256 + b < (256 : Int) ^ (k + 1)) := by show _ < _; rw [Int.pow_succ]; have := HY1.out; omega
      clear hb h256
      go_wp2
      go_round
      case rel => exact ⟨k + 1, y * 256 + b, by omega, by go_num, congrArg _ HST.out, HN.out, hb2, H3.out⟩
      case measure => simp [intOf]; omega
    · go_wp2
      go_ret
      refine ⟨ret_int' ?_, rfl⟩
      rw [HY.out, List.take_of_length_le (by omega)]
end Go.Proofs.YtnmaknnnmjfhkafGreatDoor

namespace Go.Proofs.YtnmaknnnmjfhkafGreatDoor
open Go.RowKit
set_option maxRecDepth 4000
set_option linter.unusedVariables false
set_option linter.unusedSimpArgs false
theorem nums_range' (r : ByteArray) : ∀ y ∈ nums r, 0 ≤ y ∧ y ≤ 255 := by
  intro y hy
  unfold nums at hy
  obtain ⟨c, _, rfl⟩ := List.mem_map.1 hy
  have := UInt8.toNat_lt c
  omega
theorem nums_extract (b : ByteArray) (i j : Nat) : nums (b.extract i j) = ((nums b).take j).drop i := by
  unfold nums
  rw [← List.map_take, ← List.map_drop, ByteArray.data_extract, Array.toList_extract]
  simp [List.extract, List.drop_take]
theorem numOf_rng : ∀ (k : Nat) (ys : List Int), ys.length = k → (∀ y ∈ ys, 0 ≤ y ∧ y ≤ 255) → 0 ≤ numOf ys ∧ numOf ys < (256 : Int) ^ k := by
  intro k
  induction k with
  | zero => intro ys hl _; have : ys = [] := List.eq_nil_of_length_eq_zero hl; subst this; simp [numOf]
  | succ k ih =>
    intro ys hl hy
    have hne : ys ≠ [] := by intro h; subst h; simp at hl
    have hd := List.dropLast_concat_getLast hne
    have h1 := ih ys.dropLast (by simp; omega) (fun y h => hy y (List.dropLast_subset _ h))
    have h2 := hy _ (List.getLast_mem hne)
    rw [← hd, numOf_snoc, Int.pow_succ]
    omega
theorem numOf_one (y : Int) : numOf [y] = y := by simp [numOf]
/-- The fields of the page that a text would be, out of its bytes. -/
theorem rp_fields (s : ByteArray) (n : Nat) (hs : s.size = 64) (h2 : n ≤ 8) {b : ByteArray} (hb : b = s.extract n 64) :
    (rpN b : Int) = numOf (((nums s).drop (n + 7)).take 1) ∧ rpK b = numOf (((nums s).drop n).take 1) ∧ rpL b = numOf (((nums s).drop (n + 1)).take 2) ∧ rpM b = numOf (((nums s).drop (n + 3)).take 4) ∧ rpP b = strOfNums (((nums s).drop (n + 8)).take (rpN b)) := by
  have hn : nums b = (nums s).drop n := by rw [hb, nums_extract, List.take_of_length_le (by rw [nums_length]; omega)]
  have hbz : b.data.toList.length = 64 - n := by have := nums_length s; have h := congrArg List.length hn; rw [List.length_drop, nums_length, nums_length, hs] at h; exact h
  have one : ∀ i, i < 64 - n → numOf (((nums s).drop (n + i)).take 1) = ((b.data.toList.getD i 0).toNat : Int) := fun i hi => by
    rw [← List.drop_drop, ← hn]
    unfold nums
    rw [← List.map_drop, ← List.map_take, List.drop_eq_getElem_cons (by omega)]
    simp only [List.take_succ_cons, List.take_zero, List.map_cons, List.map_nil, numOf_one]
    rw [List.getD_eq_getElem?_getD, List.getElem?_eq_getElem (by omega)]
    rfl
  refine ⟨?_, ?_, ?_, ?_, ?_⟩
  · rw [one 7 (by omega)]; rfl
  · have := one 0 (by omega); rw [Nat.add_zero] at this; rw [this]; rfl
  · unfold rpL; rw [nums_extract, hn]; simp [List.drop_take, List.drop_drop]
  · unfold rpM; rw [nums_extract, hn]; simp [List.drop_take, List.drop_drop]
  · unfold rpP
    rw [← strOfNums_nums (b.extract 8 (8 + rpN b)), nums_extract, hn]
    simp [List.drop_take, List.drop_drop]
end Go.Proofs.YtnmaknnnmjfhkafGreatDoor

namespace Go.Proofs.YtnmaknnnmjfhkafGreatDoor
open Go.RowKit
set_option linter.unusedVariables false
set_option linter.unusedSimpArgs false
section
variable {P : Program} {e t : TypeId} {i : TypeInfo} {n : Nat}
theorem part_u8 (he : ∀ w, (isAgg e).run P w = .ok false w) (xs : List Int) (j : Nat) (hj : j < xs.length) (w : World) : (part e (xs.map (Value.int .u8)).toArray j).run P w = .ok (.int .u8 (xs.getD j 0)) w := by
  unfold part
  simp [he, Result.andThen, hj, List.getD]
theorem eq_u8 (hu : P.underlying e = some (.int .u8)) (d : Nat) (a b : Int) (w : World) : (Op.equalIn (d + 1) e (.int .u8 a) (.int .u8 b)).run P w = .ok (a == b) w := by
  simp [Op.equalIn, run_underlying hu, Result.andThen]
theorem eqItems_u8 (he : ∀ w, (isAgg e).run P w = .ok false w) (hu : P.underlying e = some (.int .u8)) (d : Nat) (xs ys : List Int) (w : World) : ∀ (js : List Nat), (∀ j ∈ js, j < xs.length ∧ j < ys.length) → (Op.eqItems (d + 1) e 1 (xs.map (Value.int .u8)).toArray (ys.map (Value.int .u8)).toArray js).run P w = .ok (js.all fun j => xs.getD j 0 == ys.getD j 0) w
  | [], _ => by simp [Op.eqItems]
  | j :: js, h => by
    have hj := h j (List.mem_cons_self)
    have ih := eqItems_u8 he hu d xs ys w js (fun q hq => h q (List.mem_cons_of_mem _ hq))
    simp only [Op.eqItems, Sem.run_bind, Nat.mul_one, part_u8 he xs j hj.1, part_u8 he ys j hj.2, eq_u8 hu, Result.andThen_ok]
    cases hc : (xs.getD j 0 == ys.getD j 0) with
    | false => simp only [Bool.not_false, if_true, Sem.run_pure, List.all_cons, hc, Bool.false_and]
    | true => simp only [Bool.not_true, Bool.false_eq_true, if_false, ih, List.all_cons, hc, Bool.true_and]
theorem all_eq (xs ys : List Int) (hl : xs.length = ys.length) : ((List.range xs.length).all fun j => xs.getD j 0 == ys.getD j 0) = decide (xs = ys) := by
  rw [Bool.eq_iff_iff]
  simp only [List.all_eq_true, List.mem_range, beq_iff_eq, decide_eq_true_eq]
  constructor
  · intro h
    apply List.ext_getElem hl
    intro j h1 h2
    have := h j h1
    simpa [List.getD, h1, h2] using this
  · intro h j hj; rw [h]
/-- '!=' of two arrays of bytes. -/
theorem run_neq_arr (hu : P.underlying t = some (.array n e)) (hi : P.info? e = some i) (hc : P.cellsOf e = 1) (he : ∀ w, (isAgg e).run P w = .ok false w) (hb : P.underlying e = some (.int .u8)) (xs ys : List Int) (hx : xs.length = n) (hy : ys.length = n) (w : World) :
    (binOp .neq t (.agg (xs.map (Value.int .u8)).toArray) (.agg (ys.map (Value.int .u8)).toArray)).run P w = .ok (.bool (!decide (xs = ys))) w := by
  have h := run_equalIn_array (w := w) 9999 (xs.map (Value.int .u8)).toArray (ys.map (Value.int .u8)).toArray hu hi
  rw [hc, ← hx, eqItems_u8 he hb 9998 xs ys w (List.range xs.length) (fun j hj => by have := List.mem_range.1 hj; omega), all_eq xs ys (by omega)] at h
  simp only [binOp]
  simp [Op.equal, Op.maxDepth, h, Result.andThen]
end
end Go.Proofs.YtnmaknnnmjfhkafGreatDoor
