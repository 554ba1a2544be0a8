import Derived.Test.YtnmaknnnmjfhkaeMgXValidWorld30
namespace Go.Proofs.Ytnmaknnnmjfhkae
open Go.RowKit
set_option maxRecDepth 4000
set_option linter.unusedVariables false

theorem pages_s (s : ByteArray) (n : Int) (w : World) (hs : s.size ≤ 1048576) :
    Calls Try.prog 65 #[.string s, .int .i64 n] w fun e w' => e = .returned (.int .i64 (npages s.size n)) ∧ Below w.heap.size w w' := by
  unfold npages
  by_cases hn : 1 ≤ n ∧ n ≤ 8
  · rw [if_pos hn]
    obtain ⟨m, rfl⟩ : ∃ m : Nat, n = (m : Int) := ⟨n.toNat, by omega⟩
    obtain ⟨q, hq⟩ : ∃ q : Nat, m + q = 56 := ⟨56 - m, by omega⟩
    rw [show (56 - (m : Int)).toNat = q by omega]
    have hd : decide (1 ≤ (m : Int) ∧ (m : Int) ≤ 8) = true := by simp; omega
    go_enter Try.func65, Try.ntmps65
    go_wp2_with (first | (go_at_call 24; refine (width_s _ _).mono ?_; rw [hd]; rintro e w' ⟨rfl, rfl⟩) | (go_at_call 86; refine (parts_s s m q _ hs hq (by omega) (by omega)).mono ?_; rintro e w2 ⟨g, c, rfl, hg, hrow, hb⟩; clear hrow))
    go_ret
    exact ⟨rfl, hb⟩
  · rw [if_neg hn]
    have hd : decide (1 ≤ n ∧ n ≤ 8) = false := by simp; omega
    go_enter Try.func65, Try.ntmps65
    go_wp2_with (first | (go_at_call 24; refine (width_s _ _).mono ?_; rw [hd]; rintro e w' ⟨rfl, rfl⟩))
    go_ret
    exact ⟨rfl, Below.refl _ _⟩

end Go.Proofs.Ytnmaknnnmjfhkae
