import Derived.Test.YtnmaknnnmjfhkafGreatMkO
namespace Go.Proofs.YtnmaknnnmjfhkafGreat
open Go.RowKit
set_option maxRecDepth 4000
set_option linter.unusedVariables false
set_option linter.unusedSimpArgs false

set_option maxHeartbeats 1600000 in
theorem held_ops (a : Option Addr) (n c k : Nat) (w : World) (h : OwnS w a (opcells (opmarks k n))) (hk : 0 < k) (hl : k + 3 * n ≤ 100000000) :
    Calls Tryz.prog 34 #[.slice a n c, .int .i64 (k : Int)] w fun e w' => e = .returned (.int .i64 ((k + 3 * n : Nat) : Int)) ∧ Below w.heap.size w w' := by
  rcases h with h | ⟨g, rfl, hrow⟩
  · have hn : n = 0 := by have := congrArg List.length h; rw [opcells_length, opmarks_length, List.length_nil] at this; omega
    subst hn
    go_enter Tryz.func34, Tryz.ntmps34
    go_wp2
    refine wp_loop_rounds 1 ?_
    rw [rounds_succ]
    go_wp2
    go_ret
    exact ⟨rfl, Below.refl _ _⟩
  · have HROW := hid hrow
    clear hrow
    go_enter Tryz.func34, Tryz.ntmps34
    go_wp2
    go_loopw [1, 5] (fun x i wr => ∃ j m : Nat, j ≤ n ∧ i = .int .i64 (j : Int) ∧ x = .int .i64 (m : Int) ∧ Hid (m = k + 3 * j) ∧ Below w.heap.size w wr) (fun _ i _ => n - (intOf i).toNat)
    case atStart => exact ⟨0, k, Nat.zero_le _, rfl, rfl, hid rfl, Below.refl _ _⟩
    case round =>
      obtain ⟨j, m, hj, rfl, rfl, HM, hbel⟩ := hrel
      have HR := hid (HROW.out.below hbel)
      have HB := hid hbel
      clear hbel
      by_cases hlt : j < n
      · have hmj : (m : Int) ≤ 99999997 := by have := HM.out; omega
        have hmj0 : (0 : Int) < (m : Int) := by have := HM.out; omega
        have hj0 : (0 : Int) ≤ (j : Int) := by omega
        have hj1 : (j : Int) < (n : Int) := by omega
        have hat := opcells_at (opmarks k n) j (by rw [opmarks_length]; exact hlt)
        have hgd : (opmarks k n).getD j (false, 0, ByteArray.empty) = opm m := by rw [HM.out]; simp [opmarks, List.getD, hlt]
        rw [hgd] at hat
        obtain ⟨G, HGG⟩ : ∃ G, Hid (G = decide (m % 3 = 0)) := ⟨_, hid rfl⟩
        have hgn : (((m : Int)) % 3 == 0) = G := by rw [HGG.out, Bool.eq_iff_iff]; simp; omega
        have hc0 : wr.cell? ⟨g, j * 3, none⟩ = some (.bool G) := by rw [HGG.out]; exact HR.out.cell _ _ hat.1
        have hc1 : wr.cell? ⟨g, j * 3 + 1, none⟩ = some (.int .i64 ((m : Int) + 1)) := HR.out.cell _ _ hat.2.1
        have hc2 : wr.cell? ⟨g, j * 3 + 2, none⟩ = some (.string (mtext (m + 2))) := HR.out.cell _ _ hat.2.2
        have lt1 : g < wr.heap.size := HR.out.lt
        have hgq : (G != G) = false := by simp
        clear hat hgd
        go_wp2_with fail
        go_region_held3 (fun w' => w'.cell? ⟨g, j * 3 + 2, none⟩ = some (.string (mtext (m + 2))))
          (first | assumption | exact hc2 | exact (hb2.cell (p := ⟨g, j * 3 + 2, none⟩) lt1).trans hc2)
          (first | (go_at_call 54; refine (mark_text' ((m : Int) + 1 + 1) (m + 2) (by omega) _ (by omega) (by omega)).mono ?_; rintro e w2 ⟨rfl, hb2⟩))
        have HB2 := hid (HB.out.drew.trans (hb2.mono HB.out.size))
        clear hb2
        go_wp2
        exact ⟨⟨j + 1, m + 3, by omega, by go_num, by go_num, by show _ = _; have := HM.out; omega, HB2.out⟩, by simp [intOf]; omega⟩
      · have hjl : Hid (j = n) := by show _ = _; omega
        go_wp2
        go_ret
        exact ⟨ret_int (by rw [HM.out, hjl.out]), HB.out⟩
end Go.Proofs.YtnmaknnnmjfhkafGreat
