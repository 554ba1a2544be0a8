import Derived.Test.YtnmaknnnmjfhkabMkC
namespace Go.Proofs.Ytnmaknnnmjfhkab
open Go.RowKit
set_option maxRecDepth 4000
set_option linter.unusedVariables false
set_option linter.unusedSimpArgs false

set_option maxHeartbeats 1600000 in
theorem held_chs (a : Option Addr) (n c k : Nat) (w : World) (h : OwnS w a (chcells (chmarks k n))) (hk : 0 < k) (hl : k + 3 * n ≤ 100000000) :
    Calls Try.prog 27 #[.slice a n c, .int .i64 (k : Int)] w fun e w' => e = .returned (.int .i64 ((k + 3 * n : Nat) : Int)) ∧ Below w.heap.size w w' := by
  rcases h with h | ⟨g, rfl, hrow⟩
  · have hn : n = 0 := by have := congrArg List.length h; rw [chcells_length, chmarks_length, List.length_nil] at this; omega
    subst hn
    go_enter Try.func27, Try.ntmps27
    go_wp2
    refine wp_loop_rounds 1 ?_
    rw [rounds_succ]
    go_wp2
    go_ret
    exact ⟨rfl, Below.refl _ _⟩
  · have HROW := hid hrow
    clear hrow
    go_enter Try.func27, Try.ntmps27
    go_wp2
    go_loopw [1, 5] (fun x i wr => ∃ j m : Nat, j ≤ n ∧ i = .int .i64 (j : Int) ∧ x = .int .i64 (m : Int) ∧ Hid (m = k + 3 * j) ∧ Below w.heap.size w wr) (fun _ i _ => n - (intOf i).toNat)
    case atStart => exact ⟨0, k, Nat.zero_le _, rfl, rfl, hid rfl, Below.refl _ _⟩
    case round =>
      obtain ⟨j, m, hj, rfl, rfl, HM, hbel⟩ := hrel
      have HR := hid (HROW.out.below hbel)
      have HB := hid hbel
      clear hbel
      by_cases hlt : j < n
      · have hmj : (m : Int) ≤ 99999997 := by have := HM.out; omega
        have hmj0 : (0 : Int) < (m : Int) := by have := HM.out; omega
        have hj0 : (0 : Int) ≤ (j : Int) := by omega
        have hj1 : (j : Int) < (n : Int) := by omega
        have hat := chcells_at (chmarks k n) j (by rw [chmarks_length]; exact hlt)
        have hgd : (chmarks k n).getD j (ByteArray.empty, ByteArray.empty, false) = chm m := by rw [HM.out]; simp [chmarks, List.getD, hlt]
        rw [hgd] at hat
        obtain ⟨G, HGG⟩ : ∃ G, Hid (G = decide ((m + 2) % 3 = 0)) := ⟨_, hid rfl⟩
        have hgn : (((m : Int) + 1 + 1) % 3 == 0) = G := by rw [HGG.out, Bool.eq_iff_iff]; simp; omega
        have HC : Hid (wr.cell? ⟨g, j * 3, none⟩ = some (.string (mtext m)) ∧ wr.cell? ⟨g, j * 3 + 1, none⟩ = some (.string (mtext (m + 1))) ∧ wr.cell? ⟨g, j * 3 + 2, none⟩ = some (.bool G)) := ⟨HR.out.cell _ _ hat.1, HR.out.cell _ _ hat.2.1, by rw [HGG.out]; exact HR.out.cell _ _ hat.2.2⟩
        have lt1 : g < wr.heap.size := HR.out.lt
        clear hat hgd
        go_wp2_with fail
        go_region_held3 (fun w' => w'.cell? ⟨g, j * 3, none⟩ = some (.string (mtext m)) ∧ w'.cell? ⟨g, j * 3 + 1, none⟩ = some (.string (mtext (m + 1))) ∧ w'.cell? ⟨g, j * 3 + 2, none⟩ = some (.bool G))
          (first | assumption | exact HC.out | exact ⟨(hb2.cell (p := ⟨g, j * 3, none⟩) lt1).trans HC.out.1, (hb2.cell (p := ⟨g, j * 3 + 1, none⟩) lt1).trans HC.out.2.1, (hb2.cell (p := ⟨g, j * 3 + 2, none⟩) lt1).trans HC.out.2.2⟩)
          (first | (go_at_call 60; refine (mark_text m _ (by omega) (by omega)).mono ?_; rintro e w2 ⟨rfl, hb2⟩))
        have HC2 : Hid (w2.cell? ⟨g, j * 3, none⟩ = some (.string (mtext m)) ∧ w2.cell? ⟨g, j * 3 + 1, none⟩ = some (.string (mtext (m + 1))) ∧ w2.cell? ⟨g, j * 3 + 2, none⟩ = some (.bool G)) := ⟨(hb2.cell (p := ⟨g, j * 3, none⟩) lt1).trans HC.out.1, (hb2.cell (p := ⟨g, j * 3 + 1, none⟩) lt1).trans HC.out.2.1, (hb2.cell (p := ⟨g, j * 3 + 2, none⟩) lt1).trans HC.out.2.2⟩
        have lt2 : g < w2.heap.size := Nat.lt_of_lt_of_le lt1 hb2.size
        have HB2 := hid (HB.out.drew.trans (hb2.mono HB.out.size))
        clear hb2 lt1
        go_wp2_with fail
        go_region_held3 (fun w' => w'.cell? ⟨g, j * 3, none⟩ = some (.string (mtext m)) ∧ w'.cell? ⟨g, j * 3 + 1, none⟩ = some (.string (mtext (m + 1))) ∧ w'.cell? ⟨g, j * 3 + 2, none⟩ = some (.bool G))
          (first | assumption | exact HC2.out | exact ⟨(hb3.cell (p := ⟨g, j * 3, none⟩) lt2).trans HC2.out.1, (hb3.cell (p := ⟨g, j * 3 + 1, none⟩) lt2).trans HC2.out.2.1, (hb3.cell (p := ⟨g, j * 3 + 2, none⟩) lt2).trans HC2.out.2.2⟩)
          (first | (go_at_call 60; refine (mark_text' ((m : Int) + 1) (m + 1) (by omega) _ (by omega) (by omega)).mono ?_; rintro e w3 ⟨rfl, hb3⟩))
        have hc2 : w3.cell? ⟨g, j * 3 + 2, none⟩ = some (.bool G) := (hb3.cell (p := ⟨g, j * 3 + 2, none⟩) lt2).trans HC2.out.2.2
        have HB3 := hid (HB2.out.drew.trans (hb3.mono HB2.out.size))
        clear hb3 lt2
        have hgq : (G != G) = false := by simp
        go_wp2
        exact ⟨⟨j + 1, m + 3, by omega, by go_num, by go_num, by show _ = _; have := HM.out; omega, HB3.out⟩, by simp [intOf]; omega⟩
      · have hjl : Hid (j = n) := by show _ = _; omega
        go_wp2
        go_ret
        exact ⟨ret_int (by rw [HM.out, hjl.out]), HB.out⟩
end Go.Proofs.Ytnmaknnnmjfhkab
