import Derived.Test.YtnmaknnnmjfhkafGreatDoorMgXForged34
namespace Go.Proofs.YtnmaknnnmjfhkafGreatDoor
open Go.RowKit
set_option maxRecDepth 8000
set_option linter.unusedVariables false
set_option linter.unusedSimpArgs false

set_option maxHeartbeats 4000000 in
theorem nothing_i (x : Wo) (q : Wp) (w : World) (hl : x.rs.length ≤ 1048576) :
    Calls Tryz.prog 107 #[storeV x.W x.S x.L x.T x.H x.F x.R x.U x.O q.s x.rs.length q.cs] w fun e w' => e = .returned (.bool (noStore x)) ∧ Below w.heap.size w w' := by
  unfold storeV
  by_cases h0 : x.W = 0
  rotate_left
  · have e : noStore x = false := decide_eq_false (fun hh => h0 hh.1)
    rw [e]
    go_enter Tryz.func107, Tryz.ntmps107
    go_wp2
    go_ret
    exact ⟨rfl, below_new _ _⟩
  by_cases h1 : x.S = 0
  rotate_left
  · have e : noStore x = false := decide_eq_false (fun hh => h1 hh.2.1)
    rw [e]
    go_enter Tryz.func107, Tryz.ntmps107
    go_wp2
    go_ret
    exact ⟨rfl, below_new _ _⟩
  by_cases h2 : x.L = 0
  rotate_left
  · have e : noStore x = false := decide_eq_false (fun hh => h2 hh.2.2.1)
    rw [e]
    go_enter Tryz.func107, Tryz.ntmps107
    go_wp2
    go_ret
    exact ⟨rfl, below_new _ _⟩
  by_cases h3 : (x.T = 0 ∧ x.H = 0 ∧ x.F = 0 ∧ x.R = 0)
  rotate_left
  · have e : noStore x = false := decide_eq_false (fun hh => h3 hh.2.2.2.1)
    rw [e]
    have h3' : (Value.agg #[.int .i64 x.T, .int .i64 x.H, .int .i64 x.F, .int .i64 x.R] = Value.agg #[.int .i64 0, .int .i64 0, .int .i64 0, .int .i64 0]) = False := by simp; omega
    go_enter Tryz.func107, Tryz.ntmps107
    go_wp2
    all_goals (go_ret; exact ⟨rfl, below_new _ _⟩)
  by_cases h4 : x.U = 0
  rotate_left
  · have e : noStore x = false := decide_eq_false (fun hh => h4 hh.2.2.2.2.1)
    rw [e]
    go_enter Tryz.func107, Tryz.ntmps107
    go_wp2
    go_ret
    exact ⟨rfl, below_new _ _⟩
  by_cases h5 : x.O = 0
  rotate_left
  · have e : noStore x = false := decide_eq_false (fun hh => h5 hh.2.2.2.2.2.1)
    rw [e]
    go_enter Tryz.func107, Tryz.ntmps107
    go_wp2
    go_ret
    exact ⟨rfl, below_new _ _⟩
  by_cases h6 : x.rs.length = 0
  rotate_left
  · have e : noStore x = false := decide_eq_false (fun hh => h6 hh.2.2.2.2.2.2)
    rw [e]
    have h6' : ¬ (x.rs.length : Int) = 0 := by omega
    go_enter Tryz.func107, Tryz.ntmps107
    go_wp2
    go_ret
    have e6 : ((x.rs.length : Int) == 0) = false := beq_eq_false_iff_ne.2 h6'
    exact ⟨by show Ending.returned (Value.bool ((x.rs.length : Int) == 0)) = _; rw [e6], below_new _ _⟩
  have e : noStore x = true := decide_eq_true ⟨h0, h1, h2, h3, h4, h5, h6⟩
  rw [e]
  obtain ⟨h30, h31, h32, h33⟩ := h3
  have h6' : (x.rs.length : Int) = 0 := by omega
  go_enter Tryz.func107, Tryz.ntmps107
  go_wp2
  go_ret
  exact ⟨rfl, below_new _ _⟩

set_option maxHeartbeats 4000000 in
theorem nothing_s (x : Wo) (q : Wp) (w : World) (hl : x.rs.length ≤ 1048576) :
    Calls Tryz.prog 65 #[storeV x.W x.S x.L x.T x.H x.F x.R x.U x.O q.s x.rs.length q.cs] w fun e w' => e = .returned (.bool (noStore x)) ∧ Below w.heap.size w w' := by
  unfold storeV
  by_cases h0 : x.W = 0
  rotate_left
  · have e : noStore x = false := decide_eq_false (fun hh => h0 hh.1)
    rw [e]
    go_enter Tryz.func65, Tryz.ntmps65
    go_wp2
    go_ret
    exact ⟨rfl, below_new _ _⟩
  by_cases h1 : x.S = 0
  rotate_left
  · have e : noStore x = false := decide_eq_false (fun hh => h1 hh.2.1)
    rw [e]
    go_enter Tryz.func65, Tryz.ntmps65
    go_wp2
    go_ret
    exact ⟨rfl, below_new _ _⟩
  by_cases h2 : x.L = 0
  rotate_left
  · have e : noStore x = false := decide_eq_false (fun hh => h2 hh.2.2.1)
    rw [e]
    go_enter Tryz.func65, Tryz.ntmps65
    go_wp2
    go_ret
    exact ⟨rfl, below_new _ _⟩
  by_cases h3 : (x.T = 0 ∧ x.H = 0 ∧ x.F = 0 ∧ x.R = 0)
  rotate_left
  · have e : noStore x = false := decide_eq_false (fun hh => h3 hh.2.2.2.1)
    rw [e]
    have h3' : (Value.agg #[.int .i64 x.T, .int .i64 x.H, .int .i64 x.F, .int .i64 x.R] = Value.agg #[.int .i64 0, .int .i64 0, .int .i64 0, .int .i64 0]) = False := by simp; omega
    go_enter Tryz.func65, Tryz.ntmps65
    go_wp2
    all_goals (go_ret; exact ⟨rfl, below_new _ _⟩)
  by_cases h4 : x.U = 0
  rotate_left
  · have e : noStore x = false := decide_eq_false (fun hh => h4 hh.2.2.2.2.1)
    rw [e]
    go_enter Tryz.func65, Tryz.ntmps65
    go_wp2
    go_ret
    exact ⟨rfl, below_new _ _⟩
  by_cases h5 : x.O = 0
  rotate_left
  · have e : noStore x = false := decide_eq_false (fun hh => h5 hh.2.2.2.2.2.1)
    rw [e]
    go_enter Tryz.func65, Tryz.ntmps65
    go_wp2
    go_ret
    exact ⟨rfl, below_new _ _⟩
  by_cases h6 : x.rs.length = 0
  rotate_left
  · have e : noStore x = false := decide_eq_false (fun hh => h6 hh.2.2.2.2.2.2)
    rw [e]
    have h6' : ¬ (x.rs.length : Int) = 0 := by omega
    go_enter Tryz.func65, Tryz.ntmps65
    go_wp2
    go_ret
    have e6 : ((x.rs.length : Int) == 0) = false := beq_eq_false_iff_ne.2 h6'
    exact ⟨by show Ending.returned (Value.bool ((x.rs.length : Int) == 0)) = _; rw [e6], below_new _ _⟩
  have e : noStore x = true := decide_eq_true ⟨h0, h1, h2, h3, h4, h5, h6⟩
  rw [e]
  obtain ⟨h30, h31, h32, h33⟩ := h3
  have h6' : (x.rs.length : Int) = 0 := by omega
  go_enter Tryz.func65, Tryz.ntmps65
  go_wp2
  go_ret
  exact ⟨rfl, below_new _ _⟩

end Go.Proofs.YtnmaknnnmjfhkafGreatDoor
