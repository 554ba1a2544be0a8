import Derived.ChangeKeysEq
import Derived.Test.YtnmaknnnmjfhkaeDoorPrG31
namespace Go.Proofs.YtnmaknnnmjfhkaeDoor
open Go.RowKit
set_option linter.unusedVariables false
set_option linter.unusedSimpArgs false
section
variable {P : Program} {e t : TypeId} {i : TypeInfo} {n : Nat}
theorem part_u8 (he : ∀ w, (isAgg e).run P w = .ok false w) (xs : List Int) (j : Nat) (hj : j < xs.length) (w : World) : (part e (xs.map (Value.int .u8)).toArray j).run P w = .ok (.int .u8 (xs.getD j 0)) w := by
  unfold part
  simp [he, Result.andThen, hj, List.getD]
theorem eq_u8 (hu : P.underlying e = some (.int .u8)) (d : Nat) (a b : Int) (w : World) : (Op.equalIn (d + 1) e (.int .u8 a) (.int .u8 b)).run P w = .ok (a == b) w := by
  simp [Op.equalIn, run_underlying hu, Result.andThen]
theorem eqItems_u8 (he : ∀ w, (isAgg e).run P w = .ok false w) (hu : P.underlying e = some (.int .u8)) (d : Nat) (xs ys : List Int) (w : World) : ∀ (js : List Nat), (∀ j ∈ js, j < xs.length ∧ j < ys.length) → (Op.eqItems (d + 1) e 1 (xs.map (Value.int .u8)).toArray (ys.map (Value.int .u8)).toArray js).run P w = .ok (js.all fun j => xs.getD j 0 == ys.getD j 0) w
  | [], _ => by simp [Op.eqItems]
  | j :: js, h => by
    have hj := h j (List.mem_cons_self)
    have ih := eqItems_u8 he hu d xs ys w js (fun q hq => h q (List.mem_cons_of_mem _ hq))
    simp only [Op.eqItems, Sem.run_bind, Nat.mul_one, part_u8 he xs j hj.1, part_u8 he ys j hj.2, eq_u8 hu, Result.andThen_ok]
    cases hc : (xs.getD j 0 == ys.getD j 0) with
    | false => simp only [Bool.not_false, if_true, Sem.run_pure, List.all_cons, hc, Bool.false_and]
    | true => simp only [Bool.not_true, Bool.false_eq_true, if_false, ih, List.all_cons, hc, Bool.true_and]
theorem all_eq (xs ys : List Int) (hl : xs.length = ys.length) : ((List.range xs.length).all fun j => xs.getD j 0 == ys.getD j 0) = decide (xs = ys) := by
  rw [Bool.eq_iff_iff]
  simp only [List.all_eq_true, List.mem_range, beq_iff_eq, decide_eq_true_eq]
  constructor
  · intro h
    apply List.ext_getElem hl
    intro j h1 h2
    have := h j h1
    simpa [List.getD, h1, h2] using this
  · intro h j hj; rw [h]
theorem run_neq_arr (hu : P.underlying t = some (.array n e)) (hi : P.info? e = some i) (hc : P.cellsOf e = 1) (he : ∀ w, (isAgg e).run P w = .ok false w) (hb : P.underlying e = some (.int .u8)) (xs ys : List Int) (hx : xs.length = n) (hy : ys.length = n) (w : World) :
    (binOp .neq t (.agg (xs.map (Value.int .u8)).toArray) (.agg (ys.map (Value.int .u8)).toArray)).run P w = .ok (.bool (!decide (xs = ys))) w := by
  have h := run_equalIn_array (w := w) 9999 (xs.map (Value.int .u8)).toArray (ys.map (Value.int .u8)).toArray hu hi
  rw [hc, ← hx, eqItems_u8 he hb 9998 xs ys w (List.range xs.length) (fun j hj => by have := List.mem_range.1 hj; omega), all_eq xs ys (by omega)] at h
  simp only [binOp]
  simp [Op.equal, Op.maxDepth, h, Result.andThen]
end
end Go.Proofs.YtnmaknnnmjfhkaeDoor
