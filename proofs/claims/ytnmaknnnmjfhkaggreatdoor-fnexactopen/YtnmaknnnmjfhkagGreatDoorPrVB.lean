import Derived.WalkKit
import Derived.WalkSpells
import Derived.WalkLawsBesides
import Derived.Outline
import Derived.BigQuiet
import Derived.Deep.QuietTactic
import Derived.Deep.RegionHeld3
import Derived.Test.YtnmaknnnmjfhkagGreatDoorProg
import Derived.Test.YtnmaknnnmjfhkagGreatDoorPrG43
namespace Go.Proofs.YtnmaknnnmjfhkagGreatDoor
open Go.RowKit
set_option maxRecDepth 4000
set_option linter.unusedVariables false
theorem key_i (s : ByteArray) (w : World) (hs : s.size ≤ 1048576) : Calls Tryz.prog 183 #[.string s] w fun e w' => e = .returned (.bool (kOk s)) ∧ w' = w := by
  unfold kOk
  by_cases h1 : 1 ≤ s.size
  · by_cases h2 : s.size ≤ 20
    · go_enter Tryz.func183, Tryz.ntmps183
      go_wp2
      go_ret
      exact ⟨ret_boolb (by simp [h1, h2] <;> omega), rfl⟩
    · go_enter Tryz.func183, Tryz.ntmps183
      go_wp2
      go_ret
      exact ⟨ret_boolb (by simp [h2] <;> omega), rfl⟩
  · go_enter Tryz.func183, Tryz.ntmps183
    go_wp2
    go_ret
    exact ⟨ret_boolb (by simp <;> omega), rfl⟩
theorem val_i (s : ByteArray) (w : World) (hs : s.size ≤ 1048576) : Calls Tryz.prog 184 #[.string s] w fun e w' => e = .returned (.bool (vOk s)) ∧ w' = w := by
  unfold vOk
  go_enter Tryz.func184, Tryz.ntmps184
  go_wp2
  go_ret
  exact ⟨ret_boolb (by simp <;> omega), rfl⟩
set_option maxHeartbeats 1600000 in
theorem vbatch_i (a : Option Addr) (rs : List (ByteArray × ByteArray × Bool)) (c : Nat) (w : World) (h : Chs w a rs) (hl : rs.length ≤ 1048576) (hs : ∀ x ∈ rs, x.1.size ≤ 1048576 ∧ x.2.1.size ≤ 1048576) :
    Calls Tryz.prog 92 #[.slice a rs.length c] w fun e w' => e = .returned (.bool (batchOk rs)) ∧ Below w.heap.size w w' := by
  obtain ⟨R, HR⟩ : ∃ R, Hid (R = batchOk rs) := ⟨_, hid rfl⟩
  rw [← HR.out]
  by_cases hn : 1 ≤ (rs.length : Int)
  · by_cases hp : (rs.length : Int) ≤ 20
    · go_enter Tryz.func92, Tryz.ntmps92
      go_wp2
      go_loopw [4, 15] (fun _ i wr => ∃ k : Nat, k ≤ rs.length ∧ i = .int .i64 k ∧ Hid (∀ x ∈ rs.take k, chOk x = true) ∧ Below w.heap.size w wr) (fun _ i _ => rs.length - (intOf i).toNat)
      case atStart => exact ⟨0, Nat.zero_le _, rfl, by show ∀ s ∈ rs.take 0, _; simp, Below.refl _ _⟩
      case round =>
        obtain ⟨k, hk, rfl, HA, hbel⟩ := hrel
        by_cases hlt : k < rs.length
        · obtain ⟨b, o, s0, s1, g2, rfl, hc0, hc1, hc2, HS⟩ := (h.below hbel).at hlt
          have hm : Hid ((s0, s1, g2) ∈ rs) := by show _ ∈ _; rw [HS.out]; simp [List.getD, hlt]
          obtain ⟨hz0, hz1⟩ := hs _ hm.out
          have hlt' : (k : Int) < (rs.length : Int) := by omega
          have hk0 : (0 : Int) ≤ (k : Int) := by omega
          cases hk1 : kOk s0 with
          | false =>
            go_wp2_with (first | (go_at_call 183; refine (key_i _ _ hz0).mono ?_; rw [hk1]; rintro e w2 ⟨rfl, rfl⟩))
            go_ret
            exact ⟨ret_boolb (by rw [HR.out]; exact (batchOk_no2 hm.out (chOk_no1 hk1)).symm), hbel.alloc hbel.size _⟩
          | true =>
            cases hv1 : vOk s1 with
            | false =>
              skip
              go_wp2_with (first | (go_at_call 183; refine (key_i _ _ hz0).mono ?_; rw [hk1]; rintro e w2 ⟨rfl, rfl⟩) | (go_at_call 184; refine (val_i _ _ hz1).mono ?_; rw [hv1]; rintro e w2 ⟨rfl, rfl⟩))
              go_ret
              exact ⟨ret_boolb (by rw [HR.out]; exact (batchOk_no2 hm.out (chOk_no2 hv1)).symm), hbel.alloc hbel.size _⟩
            | true =>
              skip
              cases g2 with
              | false =>
                go_wp2_with (first | (go_at_call 183; refine (key_i _ _ hz0).mono ?_; rw [hk1]; rintro e w2 ⟨rfl, rfl⟩) | (go_at_call 184; refine (val_i _ _ hz1).mono ?_; rw [hv1]; rintro e w2 ⟨rfl, rfl⟩))
                go_roundw
                case rel => exact ⟨k + 1, by omega, by go_num, all_succ hlt HA.out HS.out (chOk_yes1 hk1 hv1), hbel.alloc hbel.size _⟩
                case measure => simp [intOf]; omega
              | true =>
                cases he : s1.toList.isEmpty with
                | false =>
                  go_wp2_with (first | (go_at_call 183; refine (key_i _ _ hz0).mono ?_; rw [hk1]; rintro e w2 ⟨rfl, rfl⟩) | (go_at_call 184; refine (val_i _ _ hz1).mono ?_; rw [hv1]; rintro e w2 ⟨rfl, rfl⟩))
                  go_ret
                  exact ⟨ret_boolb (by rw [HR.out]; exact (batchOk_no2 hm.out (chOk_no3 he)).symm), hbel.alloc hbel.size _⟩
                | true =>
                  go_wp2_with (first | (go_at_call 183; refine (key_i _ _ hz0).mono ?_; rw [hk1]; rintro e w2 ⟨rfl, rfl⟩) | (go_at_call 184; refine (val_i _ _ hz1).mono ?_; rw [hv1]; rintro e w2 ⟨rfl, rfl⟩))
                  go_roundw
                  case rel => exact ⟨k + 1, by omega, by go_num, all_succ hlt HA.out HS.out (chOk_yes2 hk1 hv1 he), hbel.alloc hbel.size _⟩
                  case measure => simp [intOf]; omega
        · have hall : Hid (∀ s ∈ rs, chOk s = true) := by have := HA.out; rwa [List.take_of_length_le (by omega)] at this
          clear HA
          go_wp2
          go_ret
          exact ⟨ret_boolb (by rw [HR.out]; exact (batchOk_yes (by omega) hall.out).symm), hbel⟩
    · go_enter Tryz.func92, Tryz.ntmps92
      go_wp2
      go_ret
      exact ⟨ret_boolb (by rw [HR.out]; exact (batchOk_no1 (by omega)).symm), Below.refl _ _⟩
  · go_enter Tryz.func92, Tryz.ntmps92
    go_wp2
    go_ret
    exact ⟨ret_boolb (by rw [HR.out]; exact (batchOk_no1 (by omega)).symm), Below.refl _ _⟩
end Go.Proofs.YtnmaknnnmjfhkagGreatDoor
