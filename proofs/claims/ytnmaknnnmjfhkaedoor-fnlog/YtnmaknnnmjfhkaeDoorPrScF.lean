import Derived.Test.YtnmaknnnmjfhkaeDoorPrScE
namespace Go.Proofs.YtnmaknnnmjfhkaeDoor
open Go.RowKit
set_option maxRecDepth 4000
set_option linter.unusedVariables false
set_option linter.unusedSimpArgs false
set_option maxHeartbeats 1000000 in
theorem goes_i (wk wl wm : Int) (wp : ByteArray) (k l m : Int) (p : ByteArray) (w : World) : Calls Tryd.prog 46 #[pageV wk wl wm wp, pageV k l m p] w fun e w' => e = .returned (.bool (goesP wk wl k l)) ∧ Below w.heap.size w w' := by
  have hb2 : ∀ o1 o2, Below w.heap.size w ((w.alloc o1).alloc o2) := fun o1 o2 => ((Below.refl _ _).alloc (Nat.le_refl _) _).alloc (by simp) _
  rw [← goes_eq]
  obtain ⟨B, hB⟩ : ∃ B, goesI wk wl k l = B := ⟨_, rfl⟩
  have HB := hid hB
  rw [hB]
  clear hB
  by_cases h12 : k = 1 ∨ k = 2
  · by_cases hl : l = wl
    · have e : B = true := by rw [← HB.out]; unfold goesI; rw [if_pos h12]; simp [hl]
      subst e
      subst hl
      clear HB
      rcases h12 with rfl | rfl <;> (go_enter Tryd.func46, Tryd.ntmps46; go_wp2; all_goals (go_ret; exact ⟨rfl, hb2 _ _⟩))
    · have hlb : (l == wl) = false := by simp [hl]
      by_cases hw : wk = 1
      · subst hw
        have e : B = false := by rw [← HB.out]; unfold goesI; rw [if_pos h12]; simp [hl]
        subst e
        clear HB
        rcases h12 with rfl | rfl <;> (go_enter Tryd.func46, Tryd.ntmps46; go_wp2; all_goals (go_ret; exact ⟨rfl, hb2 _ _⟩))
      · have hwb : (wk == 1) = false := by simp [hw]
        by_cases hlt : wl < l
        · have e : B = true := by rw [← HB.out]; unfold goesI; rw [if_pos h12]; simp [hw, hlt]
          subst e
          clear HB
          rcases h12 with rfl | rfl <;> (go_enter Tryd.func46, Tryd.ntmps46; go_wp2; all_goals (go_ret; exact ⟨by simp [hlt], hb2 _ _⟩))
        · have e : B = false := by rw [← HB.out]; unfold goesI; rw [if_pos h12]; simp [hw, hlt, hl]
          subst e
          clear HB
          rcases h12 with rfl | rfl <;> (go_enter Tryd.func46, Tryd.ntmps46; go_wp2; all_goals (go_ret; exact ⟨by simp [hlt], hb2 _ _⟩))
  · have hk1 : ¬ k = 1 := fun e => h12 (.inl e)
    have hk2 : ¬ k = 2 := fun e => h12 (.inr e)
    have hk1b : (k == 1) = false := by simp [hk1]
    have hk2b : (k == 2) = false := by simp [hk2]
    by_cases h3 : k = 3
    · subst h3
      by_cases hle : wl ≤ l
      · by_cases hw : wk = 1
        · subst hw
          have e : B = false := by rw [← HB.out]; unfold goesI; simp
          subst e
          clear HB h12
          go_enter Tryd.func46, Tryd.ntmps46
          go_wp2
          all_goals (go_ret; exact ⟨rfl, hb2 _ _⟩)
        · have hwb : (wk == 1) = false := by simp [hw]
          have e : B = true := by rw [← HB.out]; unfold goesI; simp [hw, hle]
          subst e
          clear HB h12
          go_enter Tryd.func46, Tryd.ntmps46
          go_wp2
          all_goals (go_ret; exact ⟨rfl, hb2 _ _⟩)
      · have e : B = false := by rw [← HB.out]; unfold goesI; simp [hle]
        subst e
        clear HB h12
        go_enter Tryd.func46, Tryd.ntmps46
        go_wp2
        all_goals (go_ret; exact ⟨rfl, hb2 _ _⟩)
    · have hk3b : (k == 3) = false := by simp [h3]
      have e : B = false := by rw [← HB.out]; unfold goesI; rw [if_neg h12, if_neg h3]
      subst e
      clear HB h12
      go_enter Tryd.func46, Tryd.ntmps46
      go_wp2
      all_goals (go_ret; exact ⟨rfl, hb2 _ _⟩)
theorem there_i (n : Nat) (f s : Int) (hn : n ≤ 1048576) (hf0 : -9223372036854775808 ≤ f) (hf1 : f ≤ 9223372036854775807) (w : World) : Calls Tryd.prog 43 #[.int .i64 (n : Int), .int .i64 f, .int .i64 s] w fun e w' => e = .returned (.bool (decide (0 ≤ f ∧ 0 ≤ s ∧ s ≤ (n : Int) - f))) ∧ w' = w := by
  by_cases h1 : 0 ≤ f
  · have hw : IntKind.i64.wrap ((n : Int) - f) = (n : Int) - f := by simp [IntKind.wrap, IntKind.bits, IntKind.signed]; omega
    by_cases h2 : 0 ≤ s
    · by_cases h3 : s ≤ (n : Int) - f
      · have e : decide (0 ≤ f ∧ 0 ≤ s ∧ s ≤ (n : Int) - f) = true := decide_eq_true ⟨h1, h2, h3⟩
        rw [e]
        go_enter Tryd.func43, Tryd.ntmps43
        go_wp2
        go_ret
        exact ⟨by simp [h3], rfl⟩
      · have e : decide (0 ≤ f ∧ 0 ≤ s ∧ s ≤ (n : Int) - f) = false := decide_eq_false (fun h => h3 h.2.2)
        rw [e]
        go_enter Tryd.func43, Tryd.ntmps43
        go_wp2
        go_ret
        exact ⟨by simp [h3], rfl⟩
    · have e : decide (0 ≤ f ∧ 0 ≤ s ∧ s ≤ (n : Int) - f) = false := decide_eq_false (fun h => h2 h.2.1)
      rw [e]
      go_enter Tryd.func43, Tryd.ntmps43
      go_wp2
      go_ret
      exact ⟨rfl, rfl⟩
  · have e : decide (0 ≤ f ∧ 0 ≤ s ∧ s ≤ (n : Int) - f) = false := decide_eq_false (fun h => h1 h.1)
    rw [e]
    go_enter Tryd.func43, Tryd.ntmps43
    go_wp2
    go_ret
    exact ⟨rfl, rfl⟩
end Go.Proofs.YtnmaknnnmjfhkaeDoor
