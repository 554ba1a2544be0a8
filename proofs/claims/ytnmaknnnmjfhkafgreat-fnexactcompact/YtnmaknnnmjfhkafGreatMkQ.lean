import Derived.Test.YtnmaknnnmjfhkafGreatMkP
namespace Go.Proofs.YtnmaknnnmjfhkafGreat
open Go.RowKit
set_option maxRecDepth 4000
set_option linter.unusedVariables false
set_option linter.unusedSimpArgs false

set_option maxHeartbeats 1600000 in
theorem held_prs (a : Option Addr) (n c k : Nat) (w : World) (h : OwnS w a (prcells (prmarks k n))) (hk : 0 < k) (hl : k + 2 * n ≤ 100000000) :
    Calls Tryz.prog 106 #[.slice a n c, .int .i64 (k : Int)] w fun e w' => e = .returned (.int .i64 ((k + 2 * n : Nat) : Int)) ∧ Below w.heap.size w w' := by
  rcases h with h | ⟨g, rfl, hrow⟩
  · have hn : n = 0 := by have := congrArg List.length h; rw [prcells_length, prmarks_length, List.length_nil] at this; omega
    subst hn
    go_enter Tryz.func106, Tryz.ntmps106
    go_wp2
    refine wp_loop_rounds 1 ?_
    rw [rounds_succ]
    go_wp2
    go_ret
    exact ⟨rfl, Below.refl _ _⟩
  · have HROW := hid hrow
    clear hrow
    go_enter Tryz.func106, Tryz.ntmps106
    go_wp2
    go_loopw [1, 5] (fun x i wr => ∃ j m : Nat, j ≤ n ∧ i = .int .i64 (j : Int) ∧ x = .int .i64 (m : Int) ∧ Hid (m = k + 2 * j) ∧ Below w.heap.size w wr) (fun _ i _ => n - (intOf i).toNat)
    case atStart => exact ⟨0, k, Nat.zero_le _, rfl, rfl, hid rfl, Below.refl _ _⟩
    case round =>
      obtain ⟨j, m, hj, rfl, rfl, HM, hbel⟩ := hrel
      have HR := hid (HROW.out.below hbel)
      have HB := hid hbel
      clear hbel
      by_cases hlt : j < n
      · have hmj : (m : Int) ≤ 99999998 := by have := HM.out; omega
        have hmj0 : (0 : Int) < (m : Int) := by have := HM.out; omega
        have hj0 : (0 : Int) ≤ (j : Int) := by omega
        have hj1 : (j : Int) < (n : Int) := by omega
        have hat := prcells_at (prmarks k n) j (by rw [prmarks_length]; exact hlt)
        have hgd : (prmarks k n).getD j (ByteArray.empty, ByteArray.empty) = prm m := by rw [HM.out]; simp [prmarks, List.getD, hlt]
        rw [hgd] at hat
        have HC : Hid (wr.cell? ⟨g, j * 2, none⟩ = some (.string (mtext m)) ∧ wr.cell? ⟨g, j * 2 + 1, none⟩ = some (.string (mtext (m + 1)))) := ⟨HR.out.cell _ _ hat.1, HR.out.cell _ _ hat.2⟩
        have lt1 : g < wr.heap.size := HR.out.lt
        clear hat hgd
        go_wp2_with fail
        go_region_held3 (fun w' => w'.cell? ⟨g, j * 2, none⟩ = some (.string (mtext m)) ∧ w'.cell? ⟨g, j * 2 + 1, none⟩ = some (.string (mtext (m + 1))))
          (first | assumption | exact HC.out | exact ⟨(hb2.cell (p := ⟨g, j * 2, none⟩) lt1).trans HC.out.1, (hb2.cell (p := ⟨g, j * 2 + 1, none⟩) lt1).trans HC.out.2⟩)
          (first | (go_at_call 54; refine (mark_text m _ (by omega) (by omega)).mono ?_; rintro e w2 ⟨rfl, hb2⟩))
        have HC2 : Hid (w2.cell? ⟨g, j * 2, none⟩ = some (.string (mtext m)) ∧ w2.cell? ⟨g, j * 2 + 1, none⟩ = some (.string (mtext (m + 1)))) := ⟨(hb2.cell (p := ⟨g, j * 2, none⟩) lt1).trans HC.out.1, (hb2.cell (p := ⟨g, j * 2 + 1, none⟩) lt1).trans HC.out.2⟩
        have lt2 : g < w2.heap.size := Nat.lt_of_lt_of_le lt1 hb2.size
        have HB2 := hid (HB.out.drew.trans (hb2.mono HB.out.size))
        clear hb2 lt1
        go_wp2_with fail
        go_region_held3 (fun w' => w'.cell? ⟨g, j * 2, none⟩ = some (.string (mtext m)) ∧ w'.cell? ⟨g, j * 2 + 1, none⟩ = some (.string (mtext (m + 1))))
          (first | assumption | exact HC2.out | exact ⟨(hb3.cell (p := ⟨g, j * 2, none⟩) lt2).trans HC2.out.1, (hb3.cell (p := ⟨g, j * 2 + 1, none⟩) lt2).trans HC2.out.2⟩)
          (first | (go_at_call 54; refine (mark_text' ((m : Int) + 1) (m + 1) (by omega) _ (by omega) (by omega)).mono ?_; rintro e w3 ⟨rfl, hb3⟩))
        have HB3 := hid (HB2.out.drew.trans (hb3.mono HB2.out.size))
        clear hb3 lt2
        go_wp2
        exact ⟨⟨j + 1, m + 2, by omega, by go_num, by go_num, by show _ = _; have := HM.out; omega, HB3.out⟩, by simp [intOf]; omega⟩
      · have hjl : Hid (j = n) := by show _ = _; omega
        go_wp2
        go_ret
        exact ⟨ret_int (by rw [HM.out, hjl.out]), HB.out⟩

set_option maxHeartbeats 400000 in
theorem held_state (a : Option Addr) (n c k : Nat) (w : World) (h : OwnS w a (prcells (prmarks k n))) (hk : 0 < k) (hl : k + 2 * n ≤ 100000000) :
    Calls Tryz.prog 77 #[stV a n c, .int .i64 (k : Int)] w fun e w' => e = .returned (.int .i64 ((k + 2 * n : Nat) : Int)) ∧ Below w.heap.size w w' := by
  have hb0 : ∀ o, Below w.heap.size w (w.alloc o) := fun o => (Below.refl _ _).alloc (Nat.le_refl _) _
  have hkn : ¬ ((k + 2 * n : Nat) : Int) < 0 := by omega
  obtain ⟨m, HM⟩ : ∃ m, Hid (m = k + 2 * n) := ⟨_, hid rfl⟩
  have HP := hid (fun w' h' => held_prs a n c k w' h' hk hl)
  rw [← HM.out] at HP hkn ⊢
  go_enter Tryz.func77, Tryz.ntmps77
  go_wp2_with (go_at_call 106; refine (HP.out _ (h.below (hb0 _))).mono ?_; rintro e w1 ⟨rfl, hb1⟩)
  go_ret
  exact ⟨rfl, (hb0 _).trans (hb1.mono (by simp))⟩
end Go.Proofs.YtnmaknnnmjfhkafGreat
