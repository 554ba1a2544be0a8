import Derived.WalkKit
import Derived.WalkSpells
import Derived.WalkLawsBesides
import Derived.Outline
import Derived.BigQuiet
import Derived.Deep.QuietTactic
import Derived.Deep.RegionHeld3
import Derived.Test.YtnmaknnnmjfhkaeDoorProg
import Derived.Test.YtnmaknnnmjfhkaeDoorPrG46
namespace Go.Proofs.YtnmaknnnmjfhkaeDoor
open Go.RowKit
set_option maxRecDepth 4000
set_option linter.unusedVariables false
theorem ret_boolb {a b : Bool} (h : a = b) : Ending.returned (.bool a) = .returned (.bool b) := by rw [h]
def kOk (k : ByteArray) : Bool := decide (1 ≤ k.size ∧ k.size ≤ 20)
def vOk (k : ByteArray) : Bool := decide (k.size ≤ 100)
def chOk (x : ByteArray × ByteArray × Bool) : Bool := kOk x.1 && vOk x.2.1 && !(x.2.2 && decide (x.2.1.size ≠ 0))
def batchOk (rs : List (ByteArray × ByteArray × Bool)) : Bool := decide (1 ≤ rs.length ∧ rs.length ≤ 20) && rs.all chOk
theorem batchOk_no1 {rs : List (ByteArray × ByteArray × Bool)} (h : ¬ (1 ≤ rs.length ∧ rs.length ≤ 20)) : batchOk rs = false := by simp [batchOk, h]
theorem batchOk_no2 {rs : List (ByteArray × ByteArray × Bool)} {x : ByteArray × ByteArray × Bool} (hm : x ∈ rs) (h : chOk x = false) : batchOk rs = false := by
  have : rs.all chOk = false := List.all_eq_false.2 ⟨x, hm, by simp [h]⟩
  simp [batchOk, this]
theorem batchOk_yes {rs : List (ByteArray × ByteArray × Bool)} (h : 1 ≤ rs.length ∧ rs.length ≤ 20) (h1 : ∀ x ∈ rs, chOk x = true) : batchOk rs = true := by
  simp only [batchOk, Bool.and_eq_true, decide_eq_true_eq, List.all_eq_true]
  exact ⟨h, h1⟩
theorem batchOk_of {rs : List (ByteArray × ByteArray × Bool)} (h : batchOk rs = true) : (1 ≤ rs.length ∧ rs.length ≤ 20) ∧ ∀ x ∈ rs, chOk x = true := by
  simp only [batchOk, Bool.and_eq_true, decide_eq_true_eq, List.all_eq_true] at h
  exact h
theorem key_s (s : ByteArray) (w : World) (hs : s.size ≤ 1048576) : Calls Tryd.prog 97 #[.string s] w fun e w' => e = .returned (.bool (kOk s)) ∧ w' = w := by
  unfold kOk
  by_cases h1 : 1 ≤ s.size
  · by_cases h2 : s.size ≤ 20
    · go_enter Tryd.func97, Tryd.ntmps97
      go_wp2
      go_ret
      exact ⟨ret_boolb (by simp [h1, h2] <;> omega), rfl⟩
    · go_enter Tryd.func97, Tryd.ntmps97
      go_wp2
      go_ret
      exact ⟨ret_boolb (by simp [h2] <;> omega), rfl⟩
  · go_enter Tryd.func97, Tryd.ntmps97
    go_wp2
    go_ret
    exact ⟨ret_boolb (by simp <;> omega), rfl⟩
theorem chOk_no1 {k v : ByteArray} {g : Bool} (h : kOk k = false) : chOk (k, v, g) = false := by simp [chOk, h]
theorem chOk_no2 {k v : ByteArray} {g : Bool} (h : vOk v = false) : chOk (k, v, g) = false := by simp [chOk, h]
theorem chOk_no3 {k v : ByteArray} (h : v.toList.isEmpty = false) : chOk (k, v, true) = false := by
  rw [isEmpty_size] at h
  have : v.size ≠ 0 := by simpa using h
  simp [chOk, this]
theorem chOk_yes1 {k v : ByteArray} (h : kOk k = true) (h2 : vOk v = true) : chOk (k, v, false) = true := by simp [chOk, h, h2]
theorem chOk_yes2 {k v : ByteArray} (h : kOk k = true) (h2 : vOk v = true) (h3 : v.toList.isEmpty = true) : chOk (k, v, true) = true := by
  rw [isEmpty_size] at h3
  have : v.size = 0 := by simpa using h3
  simp [chOk, h, h2, this]
theorem all_succ {α : Type} {rs : List α} {k : Nat} {x d : α} {f : α → Bool} (hlt : k < rs.length) (HA : ∀ y ∈ rs.take k, f y = true) (HS : x = rs.getD k d) (hx : f x = true) : ∀ y ∈ rs.take (k + 1), f y = true := by
  intro y hy
  rw [List.take_succ_eq_append_getElem hlt] at hy
  rcases List.mem_append.1 hy with hy | hy
  · exact HA y hy
  · simp at hy
    simp [List.getD, hlt] at HS
    rw [hy, ← HS]; exact hx
set_option maxHeartbeats 1600000 in
theorem vbatch_s (a : Option Addr) (rs : List (ByteArray × ByteArray × Bool)) (c : Nat) (w : World) (h : Chs w a rs) (hl : rs.length ≤ 1048576) (hs : ∀ x ∈ rs, x.1.size ≤ 1048576 ∧ x.2.1.size ≤ 1048576) :
    Calls Tryd.prog 90 #[.slice a rs.length c] w fun e w' => e = .returned (.bool (batchOk rs)) ∧ Below w.heap.size w w' := by
  obtain ⟨R, HR⟩ : ∃ R, Hid (R = batchOk rs) := ⟨_, hid rfl⟩
  rw [← HR.out]
  by_cases hn : 1 ≤ (rs.length : Int)
  · by_cases hp : (rs.length : Int) ≤ 20
    · go_enter Tryd.func90, Tryd.ntmps90
      go_wp2
      go_loopw [3] (fun i wr => ∃ k : Nat, k ≤ rs.length ∧ i = .int .i64 k ∧ Hid (∀ x ∈ rs.take k, chOk x = true) ∧ Below w.heap.size w wr) (fun i _ => rs.length - (intOf i).toNat)
      case atStart => exact ⟨0, Nat.zero_le _, rfl, by show ∀ s ∈ rs.take 0, _; simp, Below.refl _ _⟩
      case round =>
        obtain ⟨k, hk, rfl, HA, hbel⟩ := hrel
        by_cases hlt : k < rs.length
        · obtain ⟨b, o, s0, s1, g2, rfl, hc0, hc1, hc2, HS⟩ := (h.below hbel).at hlt
          have hm : Hid ((s0, s1, g2) ∈ rs) := by show _ ∈ _; rw [HS.out]; simp [List.getD, hlt]
          obtain ⟨hz0, hz1⟩ := hs _ hm.out
          have hlt' : (k : Int) < (rs.length : Int) := by omega
          have hk0 : (0 : Int) ≤ (k : Int) := by omega
          cases hk1 : kOk s0 with
          | false =>
            go_wp2_with (go_at_call 97; refine (key_s _ _ hz0).mono ?_; rw [hk1]; rintro e w2 ⟨rfl, rfl⟩)
            go_ret
            exact ⟨ret_boolb (by rw [HR.out]; exact (batchOk_no2 hm.out (chOk_no1 hk1)).symm), hbel⟩
          | true =>
            cases hv1 : vOk s1 with
            | false =>
              have hv3 : (100 : Int) < (s1.size : Int) := by simp [vOk] at hv1; omega
              go_wp2_with (go_at_call 97; refine (key_s _ _ hz0).mono ?_; rw [hk1]; rintro e w2 ⟨rfl, rfl⟩)
              go_ret
              exact ⟨ret_boolb (by rw [HR.out]; exact (batchOk_no2 hm.out (chOk_no2 hv1)).symm), hbel⟩
            | true =>
              have hv3 : (s1.size : Int) ≤ 100 := by simp [vOk] at hv1; omega
              cases g2 with
              | false =>
                go_wp2_with (go_at_call 97; refine (key_s _ _ hz0).mono ?_; rw [hk1]; rintro e w2 ⟨rfl, rfl⟩)
                go_roundw
                case rel => exact ⟨k + 1, by omega, by go_num, all_succ hlt HA.out HS.out (chOk_yes1 hk1 hv1), hbel⟩
                case measure => simp [intOf]; omega
              | true =>
                cases he : s1.toList.isEmpty with
                | false =>
                  go_wp2_with (go_at_call 97; refine (key_s _ _ hz0).mono ?_; rw [hk1]; rintro e w2 ⟨rfl, rfl⟩)
                  go_ret
                  exact ⟨ret_boolb (by rw [HR.out]; exact (batchOk_no2 hm.out (chOk_no3 he)).symm), hbel⟩
                | true =>
                  go_wp2_with (go_at_call 97; refine (key_s _ _ hz0).mono ?_; rw [hk1]; rintro e w2 ⟨rfl, rfl⟩)
                  go_roundw
                  case rel => exact ⟨k + 1, by omega, by go_num, all_succ hlt HA.out HS.out (chOk_yes2 hk1 hv1 he), hbel⟩
                  case measure => simp [intOf]; omega
        · have hall : Hid (∀ s ∈ rs, chOk s = true) := by have := HA.out; rwa [List.take_of_length_le (by omega)] at this
          clear HA
          go_wp2
          go_ret
          exact ⟨ret_boolb (by rw [HR.out]; exact (batchOk_yes (by omega) hall.out).symm), hbel⟩
    · go_enter Tryd.func90, Tryd.ntmps90
      go_wp2
      go_ret
      exact ⟨ret_boolb (by rw [HR.out]; exact (batchOk_no1 (by omega)).symm), Below.refl _ _⟩
  · go_enter Tryd.func90, Tryd.ntmps90
    go_wp2
    go_ret
    exact ⟨ret_boolb (by rw [HR.out]; exact (batchOk_no1 (by omega)).symm), Below.refl _ _⟩
end Go.Proofs.YtnmaknnnmjfhkaeDoor
