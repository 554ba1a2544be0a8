import Derived.Test.YtnmaknnnmjfhkacDoorRpS
namespace Go.Proofs.YtnmaknnnmjfhkacDoor
open Go.RowKit
set_option maxRecDepth 4000
set_option linter.unusedVariables false
set_option linter.unusedSimpArgs false

set_option maxHeartbeats 1000000 in
theorem readpage_s_any (s : ByteArray) (n : Int) (w : World) (hs : s.size ≤ 1048576) : Calls Tryd.prog 5 #[.string s, .int .i64 n] w fun e w' => e = .returned (rpV (rpRes s n)) ∧ Below w.heap.size w w' := by
  have hb0 : ∀ o, Below w.heap.size w (w.alloc o) := fun o => (Below.refl _ _).alloc (Nat.le_refl _) _
  by_cases hn : 1 ≤ n ∧ n ≤ 8
  · obtain ⟨m, rfl⟩ : ∃ m : Nat, n = (m : Int) := ⟨n.toNat, by omega⟩
    have hd : decide (1 ≤ (m : Int) ∧ (m : Int) ≤ 8) = true := by simp; omega
    by_cases h64 : s.size = 64
    · by_cases hN : rpN (s.extract m 64) ≤ 56 - m
      · exact readpage_s s m w h64 (by omega) (by omega) hN
      · have HR := hid0 (rpRes_no (s := s) (n := (m : Int)) (fun hh => hN (by have := hh.2.2.2.1; rw [Int.toNat_natCast] at this; omega)))
        have hs' : (s.size : Int) = 64 := by omega
        obtain ⟨b, hb⟩ : ∃ b, s.extract m 64 = b := ⟨_, rfl⟩
        have hbz : b.size = 64 - m := by rw [← hb]; simp only [ByteArray.size_extract]; omega
        obtain ⟨q, hq⟩ : ∃ q : Nat, b.size = q := ⟨_, rfl⟩
        have l7 : 7 < b.size := by omega
        have g7 := getb b 7 l7
        rw [hb] at hN
        obtain ⟨N, hN2⟩ : ∃ N, N = (b.data.toList.getD 7 0).toNat := ⟨_, rfl⟩
        rw [← hN2] at g7
        have hNl : (64 - (m : Int) - 8) < (N : Int) := by have : rpN b = N := hN2.symm; omega
        have hNb : N ≤ 255 := by rw [hN2]; have := UInt8.toNat_lt (b.data.toList.getD 7 0); omega
        have hm7 : (7 : Int) < (q : Int) := by omega
        have hm1 : m + q = 64 := by omega
        clear hbz hN2 hN
        go_enter Tryd.func5, Tryd.ntmps5
        go_wp2_with (first | (go_at_call 13; refine (width_s _ _).mono ?_; rw [hd]; rintro e w2 ⟨rfl, rfl⟩) | (go_at_call 14; refine (part_s _ _ (by omega) (by omega)).mono ?_; rintro e w2 ⟨rfl, rfl⟩))
        refine bodyPost_ret (v := .tuple #[pageV 0 0 0 ⟨#[]⟩, .bool false]) (by simp [results, Tryd.results5, go_sem]) rfl ⟨by rw [HR.out]; rfl, ?_⟩
        exact hb0 _
    · have HR := hid0 (rpRes_no (s := s) (n := (m : Int)) (fun hh => h64 hh.2.2.1))
      have hs' : ((s.size : Int) != 64) = true := by simp; omega
      clear h64
      go_enter Tryd.func5, Tryd.ntmps5
      go_wp2_with (first | (go_at_call 13; refine (width_s _ _).mono ?_; rw [hd]; rintro e w2 ⟨rfl, rfl⟩))
      refine bodyPost_ret (v := .tuple #[pageV 0 0 0 ⟨#[]⟩, .bool false]) (by simp [results, Tryd.results5, go_sem]) rfl ⟨by rw [HR.out]; rfl, ?_⟩
      exact hb0 _
  · have HR := hid0 (rpRes_no (s := s) (n := n) (fun hh => hn ⟨hh.1, hh.2.1⟩))
    have hd : decide (1 ≤ n ∧ n ≤ 8) = false := by simpa using hn
    clear hn
    go_enter Tryd.func5, Tryd.ntmps5
    go_wp2_with (first | (go_at_call 13; refine (width_s _ _).mono ?_; rw [hd]; rintro e w2 ⟨rfl, rfl⟩))
    refine bodyPost_ret (v := .tuple #[pageV 0 0 0 ⟨#[]⟩, .bool false]) (by simp [results, Tryd.results5, go_sem]) rfl ⟨by rw [HR.out]; rfl, ?_⟩
    exact hb0 _
end Go.Proofs.YtnmaknnnmjfhkacDoor
