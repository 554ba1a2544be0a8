import Derived.Test.YtnmaknnnmjfhkaeProg
import Derived.Test.YtnmaknnnmjfhkaePlain

set_option maxHeartbeats 16000000
set_option maxRecDepth 8000
namespace Go.Proofs.Ytnmaknnnmjfhkae
open Go.RowKit
set_option maxRecDepth 4000
set_option linter.unusedVariables false
set_option linter.unusedSimpArgs false
/-- How many sectors a half has. -/
def hv (n : Int) : Int := if 8 ≤ n ∧ n ≤ 200 then (n - 2) / 2 else 0
theorem isize_i (n : Int) (w : World) : Calls Try.prog 31 #[.int .i64 n] w fun e w' => e = .returned (.bool (decide (8 ≤ n ∧ n ≤ 200))) ∧ w' = w := by
  go_enter Try.func31, Try.ntmps31
  by_cases h1 : 8 ≤ n <;> by_cases h2 : n ≤ 200 <;> (go_wp2; go_ret; simp [h1, h2])
theorem halves_i (n : Int) (w : World) : Calls Try.prog 33 #[.int .i64 n] w fun e w' => e = .returned (.int .i64 (hv n)) ∧ w' = w := by
  by_cases h : 8 ≤ n ∧ n ≤ 200
  · have hd : decide (8 ≤ n ∧ n ≤ 200) = true := by simp [h]
    have hh : hv n = (n - 2) / 2 := by unfold hv; rw [if_pos h]
    obtain ⟨h1, h2⟩ := h
    go_enter Try.func33, Try.ntmps33
    go_wp2_with (go_at_call 31; refine (isize_i _ _).mono ?_; rw [hd]; rintro e w2 ⟨rfl, rfl⟩)
    go_ret
    refine ⟨?_, rfl⟩
    rw [hh]
    rfl
  · have hd : decide (8 ≤ n ∧ n ≤ 200) = false := by simpa using h
    have hh : hv n = 0 := by unfold hv; rw [if_neg h]
    rw [hh]
    go_enter Try.func33, Try.ntmps33
    go_wp2_with (go_at_call 31; refine (isize_i _ _).mono ?_; rw [hd]; rintro e w2 ⟨rfl, rfl⟩)
    go_ret
    exact ⟨rfl, rfl⟩
theorem halves_s (n : Int) (w : World) : Calls Try.prog 23 #[.int .i64 n] w fun e w' => e = .returned (.int .i64 (hv n)) ∧ w' = w := by
  by_cases h1 : 8 ≤ n
  · by_cases h2 : n ≤ 200
    · have hh : hv n = (n - 2) / 2 := by unfold hv; rw [if_pos ⟨h1, h2⟩]
      go_enter Try.func23, Try.ntmps23
      go_wp2
      go_ret
      refine ⟨?_, rfl⟩
      rw [hh]
      rfl
    · have hh : hv n = 0 := by unfold hv; rw [if_neg (fun x => h2 x.2)]
      rw [hh]
      go_enter Try.func23, Try.ntmps23
      go_wp2
      go_ret
      exact ⟨rfl, rfl⟩
  · have hh : hv n = 0 := by unfold hv; rw [if_neg (fun x => h1 x.1)]
    rw [hh]
    go_enter Try.func23, Try.ntmps23
    go_wp2
    go_ret
    exact ⟨rfl, rfl⟩
end Go.Proofs.Ytnmaknnnmjfhkae

namespace Go.Proofs.Ytnmaknnnmjfhkae
open Go.RowKit
set_option linter.unusedVariables false

/-- A store as a value. -/
def storeV (W S L T H F R U O : Int) (a : Option Addr) (n c : Nat) : Value := .agg #[.int .i64 W, .int .i64 S, .int .i64 L, .int .i64 T, .int .i64 H, .int .i64 F, .int .i64 R, .int .i64 U, .int .i64 O, .slice a n c]
end Go.Proofs.Ytnmaknnnmjfhkae
