import Derived.Test.YtnmaknnnmjfhkadVB
import Derived.Test.YtnmaknnnmjfhkadDsk
namespace Go.Proofs.Ytnmaknnnmjfhkad
open Go.RowKit
set_option linter.unusedVariables false

/-- The form of a change, in numbers. -/
def chN (x : ByteArray × ByteArray × Bool) : List Int := if x.2.2 then [1] ++ ([(x.1.size : Int)] ++ nums x.1) else [0] ++ ([(x.1.size : Int)] ++ nums x.1) ++ ([(x.2.1.size : Int)] ++ nums x.2.1)
/-- The form of a batch. -/
def bForm (rs : List (ByteArray × ByteArray × Bool)) : ByteArray := strOfNums (rs.flatMap chN)
theorem bForm_nil : bForm [] = ByteArray.empty := rfl
theorem chN_set (k v : ByteArray) : strOfNums [0] ++ (strOfNums [(k.size : Int)] ++ k) ++ (strOfNums [(v.size : Int)] ++ v) = strOfNums (chN (k, v, false)) := by
  show _ = strOfNums ([0] ++ ([(k.size : Int)] ++ nums k) ++ ([(v.size : Int)] ++ nums v))
  rw [strOfNums_append, strOfNums_append, strOfNums_append, strOfNums_append, strOfNums_nums, strOfNums_nums]
theorem chN_rem (k v : ByteArray) : strOfNums [1] ++ (strOfNums [(k.size : Int)] ++ k) = strOfNums (chN (k, v, true)) := by
  show _ = strOfNums ([1] ++ ([(k.size : Int)] ++ nums k))
  rw [strOfNums_append, strOfNums_append, strOfNums_nums]
theorem bForm_succ (rs : List (ByteArray × ByteArray × Bool)) (k : Nat) (x : ByteArray × ByteArray × Bool) (d : ByteArray × ByteArray × Bool) (h : k < rs.length) (hx : x = rs.getD k d) : bForm (rs.take (k + 1)) = bForm (rs.take k) ++ strOfNums (chN x) := by
  unfold bForm
  rw [List.take_succ_eq_append_getElem h, List.flatMap_append, strOfNums_append]
  simp [List.getD, h] at hx
  rw [hx]
  simp
theorem chN_size (x : ByteArray × ByteArray × Bool) (h : chOk x = true) : (strOfNums (chN x)).size ≤ 123 := by
  rw [strOfNums_size]
  unfold chOk kOk vOk at h
  simp only [Bool.and_eq_true, decide_eq_true_eq] at h
  unfold chN
  split
  · simp [nums_length]; omega
  · simp [nums_length]; omega
theorem bForm_size (rs : List (ByteArray × ByteArray × Bool)) (h : ∀ x ∈ rs, chOk x = true) : (bForm rs).size ≤ 123 * rs.length := by
  induction rs with
  | nil => simp [bForm_nil]
  | cons x r ih =>
    have h1 := ih (fun y hy => h y (List.mem_cons_of_mem _ hy))
    have h2 := chN_size x (h x (List.mem_cons_self))
    have e : bForm (x :: r) = strOfNums (chN x) ++ bForm r := by unfold bForm; rw [List.flatMap_cons, strOfNums_append]
    rw [e, ByteArray.size_append, List.length_cons]
    omega

/-- What FormBatch answers. -/
def bOut (rs : List (ByteArray × ByteArray × Bool)) : ByteArray := if batchOk rs = true then bForm rs else ByteArray.empty
end Go.Proofs.Ytnmaknnnmjfhkad
