import Derived.Test.YtnmaknnnmjfhkafGreatPrt
import Derived.Test.YtnmaknnnmjfhkafGreatWd
namespace Go.Proofs.YtnmaknnnmjfhkafGreat
open Go.RowKit
set_option maxRecDepth 4000
set_option linter.unusedVariables false

/-- How many pages an entry has. -/
def npages (l : Nat) (n : Int) : Int := if 1 ≤ n ∧ n ≤ 8 then (nparts l (56 - n).toNat : Int) else 0

theorem partw_i (n m : Nat) (w : World) (h : n + m = 56) (h1 : 1 ≤ n) (h2 : n ≤ 8) : Calls Tryz.prog 88 #[.int .i64 (n : Int)] w fun e w' => e = .returned (.int .i64 (m : Int)) ∧ w' = w := by
  have hm : (64 - (n : Int) - 8) = (m : Int) := by omega
  go_enter Tryz.func88, Tryz.ntmps88
  go_wp2
  go_ret
  exact ⟨by first | rfl | exact congrArg _ (congrArg _ hm), rfl⟩

theorem pages_i (s : ByteArray) (n : Int) (w : World) (hs : s.size ≤ 1048576) :
    Calls Tryz.prog 48 #[.string s, .int .i64 n] w fun e w' => e = .returned (.int .i64 (npages s.size n)) ∧ Below w.heap.size w w' := by
  obtain ⟨R, HR⟩ : ∃ R, Hid (R = npages s.size n) := ⟨_, hid rfl⟩
  rw [← HR.out]
  by_cases hn : 1 ≤ n ∧ n ≤ 8
  · obtain ⟨m, rfl⟩ : ∃ m : Nat, n = (m : Int) := ⟨n.toNat, by omega⟩
    obtain ⟨q, hq⟩ : ∃ q : Nat, m + q = 56 := ⟨56 - m, by omega⟩
    have hd : decide (1 ≤ (m : Int) ∧ (m : Int) ≤ 8) = true := by simp; omega
    by_cases hz : s.size = 0
    · have hz' : s = ByteArray.empty := by apply ByteArray.ext; exact Array.eq_empty_of_size_eq_zero hz
      subst hz'
      have hR : R = 1 := by rw [HR.out]; unfold npages nparts; rw [if_pos hn]; simp
      clear HR
      subst hR
      go_enter Tryz.func48, Tryz.ntmps48
      go_wp2_with (first | (go_at_call 64; refine (width_i _ _).mono ?_; rw [hd]; rintro e w' ⟨rfl, rfl⟩))
      go_ret
      exact ⟨rfl, Below.refl _ _⟩
    · obtain ⟨l, hl⟩ : ∃ l : Nat, s.size = l + 1 := ⟨s.size - 1, by omega⟩
      have hR : R = ((l / q : Nat) : Int) + 1 := by
        rw [HR.out]; unfold npages nparts
        rw [if_pos hn, if_neg hz, show (56 - (m : Int)).toNat = q by omega, hl]
        simp
      obtain ⟨d, hdq⟩ : ∃ d : Nat, d = l / q := ⟨_, rfl⟩
      have hq1 : d ≤ l := by rw [hdq]; exact Nat.div_le_self _ _
      have hq2 : (l : Int) / (q : Int) = (d : Int) := by rw [hdq]; simp
      rw [← hdq] at hR
      clear HR hdq
      subst hR
      have hne : s.toList.isEmpty = false := by rw [isEmpty_size]; simp [hz]
      go_enter Tryz.func48, Tryz.ntmps48
      go_wp2_with (first | (go_at_call 64; refine (width_i _ _).mono ?_; rw [hd]; rintro e w' ⟨rfl, rfl⟩) | (go_at_call 88; refine (partw_i m q _ hq (by omega) (by omega)).mono ?_; rintro e w' ⟨rfl, rfl⟩))
      go_ret
      exact ⟨rfl, Below.refl _ _⟩
  · have hR : R = 0 := by rw [HR.out]; unfold npages; exact if_neg hn
    clear HR
    subst hR
    have hd : decide (1 ≤ n ∧ n ≤ 8) = false := by simp; omega
    go_enter Tryz.func48, Tryz.ntmps48
    go_wp2_with (first | (go_at_call 64; refine (width_i _ _).mono ?_; rw [hd]; rintro e w' ⟨rfl, rfl⟩))
    go_ret
    exact ⟨rfl, Below.refl _ _⟩
end Go.Proofs.YtnmaknnnmjfhkafGreat
