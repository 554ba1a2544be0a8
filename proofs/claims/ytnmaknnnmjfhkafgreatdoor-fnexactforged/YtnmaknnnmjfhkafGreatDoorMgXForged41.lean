import Derived.Test.YtnmaknnnmjfhkafGreatDoorProg
import Derived.Test.YtnmaknnnmjfhkafGreatDoorQxForgedSum
import Derived.WalkKit
import Derived.WalkSpells
import Derived.WalkLawsBesides
import Derived.Outline
import Derived.BigQuiet
import Derived.Deep.QuietTactic
import Derived.Deep.RegionHeld3

set_option maxHeartbeats 16000000
set_option maxRecDepth 8000
namespace Go.Proofs.YtnmaknnnmjfhkafGreatDoor
open Go.RowKit
set_option maxRecDepth 4000

theorem ret_bool {a b : Bool} (h : a = b) : Ending.returned (.bool a) = .returned (.bool b) := by rw [h]
def pageOk (k l m : Int) (p : ByteArray) (n : Int) : Bool := decide (1 ≤ n ∧ n ≤ 8 ∧ 1 ≤ k ∧ k ≤ 4 ∧ 1 ≤ l ∧ l ≤ 60000 ∧ 1 ≤ m ∧ m ≤ 1000000000 ∧ (p.size : Int) ≤ 56 - n ∧ (k = 3 → p.size = 0))

@[reducible] def pageV (k l m : Int) (p : ByteArray) : Value := .agg #[.int .i64 k, .int .i64 l, .int .i64 m, .string p]

set_option maxHeartbeats 16000000 in
theorem num_s (v : Int) (c : Nat) (w : World) (h0 : 0 ≤ v) (h1 : v ≤ 9223372036854775807) (hc : c ≤ 8) :
    Calls Tryz.prog 46 #[.int .i64 v, .int .i64 (c : Int)] w fun e w' => e = .returned (.string (strOfNums (be c v))) ∧ Below w.heap.size w w' := by
  have hb1 := bytes1
  go_enter Tryz.func46, Tryz.ntmps46
  go_wp2
  go_loopw [0, 5, 6] (fun x o i wr => ∃ k : Nat, k ≤ c ∧ i = .int .i64 k ∧ o = .string (strOfNums (be k v)) ∧ x = .int .i64 (sh k v) ∧ Below w.heap.size w wr) (fun _ _ i _ => c - (intOf i).toNat)
  case atStart => exact ⟨0, Nat.zero_le _, rfl, rfl, rfl, Below.refl _ _⟩
  case round =>
    obtain ⟨k, hk, rfl, rfl, rfl, hbel⟩ := hrel
    have hsb := sh_bd2 k v h0 h1
    by_cases hlt : k < c
    · have hz1 : (strOfNums [sh k v % 256]).size ≤ 1 := by rw [strOfNums_size]; simp
      have hz2 : (strOfNums (be k v)).size ≤ 8 := by rw [strOfNums_size, be_length]; omega
      go_wp2
      go_roundw
      case rel => exact ⟨k + 1, by omega, by go_num, by rw [be_succ, ← strOfNums_append]; rfl, rfl, hbel.alloc hbel.size _⟩
      case measure => simp [intOf]; omega
    · have hkn : k = c := by omega
      subst hkn
      go_wp2
      go_ret
      exact ⟨rfl, hbel⟩

theorem part_s (n : Int) (w : World) (h1 : 1 ≤ n) (h2 : n ≤ 8) : Calls Tryz.prog 67 #[.int .i64 n] w fun e w' => e = .returned (.int .i64 (64 - n - 8)) ∧ w' = w := by
  go_enter Tryz.func67, Tryz.ntmps67
  go_wp2
  go_ret
  exact ⟨rfl, rfl⟩
theorem part_i (n : Int) (w : World) (h1 : 1 ≤ n) (h2 : n ≤ 8) : Calls Tryz.prog 112 #[.int .i64 n] w fun e w' => e = .returned (.int .i64 (64 - n - 8)) ∧ w' = w := by
  go_enter Tryz.func112, Tryz.ntmps112
  go_wp2
  go_ret
  exact ⟨rfl, rfl⟩

set_option maxHeartbeats 16000000 in
theorem ok_i (k l m : Int) (p : ByteArray) (n : Int) (w : World) (hp : p.size ≤ 1048576) :
    Calls Tryz.prog 83 #[pageV k l m p, .int .i64 n] w fun e w' => e = .returned (.bool (pageOk k l m p n)) ∧ Below w.heap.size w w' := by
  by_cases hn : 1 ≤ n ∧ n ≤ 8
  · obtain ⟨hn1, hn2⟩ := hn
    go_enter Tryz.func83, Tryz.ntmps83
    go_wp2
    all_goals first
      | (go_ret; refine ⟨ret_bool ?_, (Below.refl _ _).alloc (Nat.le_refl _) _⟩; unfold pageOk; symm; apply decide_eq_false; intro h; omega)
      | (go_ret; refine ⟨ret_bool ?_, (Below.refl _ _).alloc (Nat.le_refl _) _⟩; have hk3 : (k == 3) = true := by assumption
         rw [isEmpty_size]; unfold pageOk; simp at hk3; apply decide_eq_decide.2; constructor <;> intro h <;> omega)
      | (go_quiet ((go_at_call 112; exact Calls.quiet_of_same (part_i _ _ hn1 hn2))); go_wp2; go_ret; refine ⟨ret_bool ?_, below_drewN ((Below.refl _ _).alloc (Nat.le_refl _) _) _⟩; have hk3 : (k == 3) = false := by assumption
         unfold pageOk; simp at hk3; apply decide_eq_decide.2; constructor <;> intro h <;> omega)
  · have hd : decide (1 ≤ n ∧ n ≤ 8) = false := by simpa using hn
    go_enter Tryz.func83, Tryz.ntmps83
    go_wp2_with (go_at_call 50; refine (width_i _ _).mono ?_; rw [hd]; rintro e w' ⟨rfl, rfl⟩)
    go_ret
    refine ⟨ret_bool ?_, (Below.refl _ _).alloc (Nat.le_refl _) _⟩
    unfold pageOk; symm; apply decide_eq_false; intro h; omega

set_option maxHeartbeats 16000000 in
theorem ok_s (k l m : Int) (p : ByteArray) (n : Int) (w : World) (hp : p.size ≤ 1048576) :
    Calls Tryz.prog 85 #[pageV k l m p, .int .i64 n] w fun e w' => e = .returned (.bool (pageOk k l m p n)) ∧ Below w.heap.size w w' := by
  by_cases hn : 1 ≤ n ∧ n ≤ 8
  · obtain ⟨hn1, hn2⟩ := hn
    by_cases h1 : 1 ≤ k ∧ k ≤ 4 ∧ 1 ≤ l ∧ l ≤ 60000 ∧ 1 ≤ m ∧ m ≤ 1000000000
    · obtain ⟨a1, a2, a3, a4, a5, a6⟩ := h1
      by_cases hz : (p.size : Int) ≤ 64 - n - 8
      · by_cases hk : k = 3
        · have hk' : (k != 3) = false := by simp [hk]
          have HK : Hid (k = 3) := hk
          clear hk
          go_enter Tryz.func85, Tryz.ntmps85
          go_wp2
          go_quiet ((go_at_call 67; exact Calls.quiet_of_same (part_s _ _ hn1 hn2)))
          go_wp2
          go_ret
          refine ⟨ret_bool ?_, below_drewN ((Below.refl _ _).alloc (Nat.le_refl _) _) _⟩
          rw [isEmpty_size]; unfold pageOk; have hk := HK.out; apply decide_eq_decide.2; constructor <;> intro h <;> omega
        · have hk' : (k != 3) = true := by simp [hk]
          go_enter Tryz.func85, Tryz.ntmps85
          go_wp2
          go_quiet ((go_at_call 67; exact Calls.quiet_of_same (part_s _ _ hn1 hn2)))
          go_wp2
          go_ret
          refine ⟨ret_bool ?_, below_drewN ((Below.refl _ _).alloc (Nat.le_refl _) _) _⟩
          unfold pageOk; symm; apply decide_eq_true; omega
      · have hz' : decide ((p.size : Int) ≤ 64 - n - 8) = false := by simpa using hz
        go_enter Tryz.func85, Tryz.ntmps85
        go_wp2
        go_quiet ((go_at_call 67; exact Calls.quiet_of_same (part_s _ _ hn1 hn2)))
        go_wp2
        go_ret
        refine ⟨ret_bool ?_, below_drewN ((Below.refl _ _).alloc (Nat.le_refl _) _) _⟩
        unfold pageOk; symm; apply decide_eq_false; intro h; omega
    · have hf : pageOk k l m p n = false := by unfold pageOk; apply decide_eq_false; intro h; omega
      have HF : Hid (pageOk k l m p n = false) := hf
      clear hf
      go_enter Tryz.func85, Tryz.ntmps85
      go_wp2
      all_goals (go_ret; exact ⟨ret_bool HF.out.symm, (Below.refl _ _).alloc (Nat.le_refl _) _⟩)
  · have hd : decide (1 ≤ n ∧ n ≤ 8) = false := by simpa using hn
    go_enter Tryz.func85, Tryz.ntmps85
    go_wp2_with (go_at_call 55; refine (width_s _ _).mono ?_; rw [hd]; rintro e w' ⟨rfl, rfl⟩)
    go_ret
    refine ⟨ret_bool ?_, (Below.refl _ _).alloc (Nat.le_refl _) _⟩
    unfold pageOk; symm; apply decide_eq_false; intro h; omega
end Go.Proofs.YtnmaknnnmjfhkafGreatDoor

namespace Go.Proofs.YtnmaknnnmjfhkafGreatDoor
open Go.RowKit
set_option maxRecDepth 4000
theorem hide {p : Prop} (h : p) : Hid p := h

/-- The text in a slot. -/
def strOf : Value → ByteArray
  | .string s => s
  | _ => ByteArray.empty
theorem head_str (k l m : Int) (p : ByteArray) : strOfNums (be 1 k) ++ strOfNums (be 2 l) ++ strOfNums (be 4 m) ++ strOfNums (be 1 (p.size : Int)) ++ p = strOfNums (pageHead k l m p ++ List.replicate 0 0) := by
  rw [List.replicate_zero, List.append_nil]
  unfold pageHead
  rw [strOfNums_append, strOfNums_append, strOfNums_append, strOfNums_append, strOfNums_nums]
theorem zero_str (xs : List Int) (j : Nat) : strOfNums (xs ++ List.replicate j 0) ++ ⟨#[0]⟩ = strOfNums (xs ++ List.replicate (j + 1) 0) := by
  rw [List.replicate_succ', ← List.append_assoc, strOfNums_append _ [0]]
  rfl
theorem num_s' (v : Int) (c : Nat) (ci : Int) (hci : ci = (c : Int)) (w : World) (h0 : 0 ≤ v) (h1 : v ≤ 9223372036854775807) (hc : c ≤ 8) :
    Calls Tryz.prog 46 #[.int .i64 v, .int .i64 ci] w fun e w' => e = .returned (.string (strOfNums (be c v))) ∧ Below w.heap.size w w' := by
  subst hci; exact num_s v c w h0 h1 hc

theorem keep4 {W : World} {v0 v1 v2 v3 : Value} {w w' : World} (hb : Below w.heap.size w w')
    (h : W.heap.size < w.heap.size ∧ w.cell? ⟨W.heap.size, 0, none⟩ = some v0 ∧ w.cell? ⟨W.heap.size, 1, none⟩ = some v1 ∧ w.cell? ⟨W.heap.size, 2, none⟩ = some v2 ∧ w.cell? ⟨W.heap.size, 3, none⟩ = some v3 ∧ Below W.heap.size W w) :
    W.heap.size < w'.heap.size ∧ w'.cell? ⟨W.heap.size, 0, none⟩ = some v0 ∧ w'.cell? ⟨W.heap.size, 1, none⟩ = some v1 ∧ w'.cell? ⟨W.heap.size, 2, none⟩ = some v2 ∧ w'.cell? ⟨W.heap.size, 3, none⟩ = some v3 ∧ Below W.heap.size W w' :=
  ⟨Nat.lt_of_lt_of_le h.1 hb.size, (hb.cell (p := ⟨_, 0, none⟩) h.1).trans h.2.1, (hb.cell (p := ⟨_, 1, none⟩) h.1).trans h.2.2.1, (hb.cell (p := ⟨_, 2, none⟩) h.1).trans h.2.2.2.1, (hb.cell (p := ⟨_, 3, none⟩) h.1).trans h.2.2.2.2.1,
    h.2.2.2.2.2.trans (hb.mono (Nat.le_of_lt h.1))⟩

set_option maxHeartbeats 16000000 in
theorem form_s (k l m : Int) (p : ByteArray) (n : Nat) (w : World) (hok : pageOk k l m p n = true) :
    Calls Tryz.prog 45 #[pageV k l m p, .int .i64 (n : Int)] w fun e w' => e = .returned (.string (pageForm k l m p n)) ∧ Below w.heap.size w w' := by
  have hok' := of_decide_eq_true (by unfold pageOk at hok; exact hok)
  obtain ⟨hn1, hn2, hk1, hk2, hl1, hl2, hm1, hm2, hp, _⟩ := hok'
  have z1 : (strOfNums (be 1 k)).size = 1 := by rw [strOfNums_size, be_length]
  have z2 : (strOfNums (be 2 l)).size = 2 := by rw [strOfNums_size, be_length]
  have z3 : (strOfNums (be 4 m)).size = 4 := by rw [strOfNums_size, be_length]
  have z4 : (strOfNums (be 1 (p.size : Int))).size = 1 := by rw [strOfNums_size, be_length]
  have z5 : ¬ (9223372036854775807 < 8 + p.size) := by omega
  go_enter Tryz.func45, Tryz.ntmps45
  go_wp2_with (go_at_call 85; refine (ok_s k l m p n _ (by omega)).mono ?_; rw [hok]; rintro e w1 ⟨rfl, hb1⟩)
  have hS : w.heap.size < w1.heap.size ∧ w1.cell? ⟨w.heap.size, 0, none⟩ = some (.int .i64 k) ∧ w1.cell? ⟨w.heap.size, 1, none⟩ = some (.int .i64 l) ∧ w1.cell? ⟨w.heap.size, 2, none⟩ = some (.int .i64 m) ∧ w1.cell? ⟨w.heap.size, 3, none⟩ = some (.string p) ∧ Below w.heap.size w w1 :=
    keep4 (v0 := .int .i64 k) (v1 := .int .i64 l) (v2 := .int .i64 m) (v3 := .string p) hb1 ⟨by simp, by simp, by simp, by simp, by simp, (Below.refl _ _).alloc (Nat.le_refl _) _⟩
  have HS := hide hS
  clear hS hb1
  go_region_held3 (fun w' => w.heap.size < w'.heap.size ∧ w'.cell? ⟨w.heap.size, 0, none⟩ = some (.int .i64 k) ∧ w'.cell? ⟨w.heap.size, 1, none⟩ = some (.int .i64 l) ∧ w'.cell? ⟨w.heap.size, 2, none⟩ = some (.int .i64 m) ∧ w'.cell? ⟨w.heap.size, 3, none⟩ = some (.string p) ∧ Below w.heap.size w w')
    (first | assumption | exact keep4 (below_drewN (Below.refl _ _) 1) HS.out | exact keep4 (by assumption) (by assumption))
    (first | (go_at_call_of 46 k; refine (num_s' k 1 _ rfl _ (by omega) (by omega) (by omega)).mono ?_; rintro e w2 ⟨rfl, hb2⟩) | (go_at_call_of 46 l; refine (num_s' l 2 _ rfl _ (by omega) (by omega) (by omega)).mono ?_; rintro e w3 ⟨rfl, hb3⟩) | (go_at_call_of 46 m; refine (num_s' m 4 _ rfl _ (by omega) (by omega) (by omega)).mono ?_; rintro e w4 ⟨rfl, hb4⟩) | (go_at_call_of 46 (p.size : Int); refine (num_s' (p.size : Int) 1 _ rfl _ (by omega) (by omega) (by omega)).mono ?_; rintro e w5 ⟨rfl, hb5⟩))
  clear HS
  rename_i hSl
  have hbl := hSl.2.2.2.2.2
  clear hSl
  go_wp2
  go_loop [5] (fun b => ∃ j : Nat, j ≤ 56 - n - p.size ∧ b = .string (strOfNums (pageHead k l m p ++ List.replicate j 0))) (fun b => 64 - (strOf b).size)
  case atStart => exact ⟨0, Nat.zero_le _, by rw [head_str]⟩
  case round =>
    obtain ⟨j, hj, rfl⟩ := hrel
    have hsz : (strOfNums (pageHead k l m p ++ List.replicate j 0)).size = 8 + p.size + j := by rw [strOfNums_size, List.length_append, pageHead_length, List.length_replicate]
    by_cases hlt : j < 56 - n - p.size
    · go_wp2
      go_round
      case rel => exact ⟨j + 1, by omega, by rw [zero_str]⟩
      case measure =>
        rw [zero_str]
        simp only [strOf, strOfNums_size, List.length_append, pageHead_length, List.length_replicate]
        omega
    · have hje : j = 56 - n - p.size := by omega
      subst hje
      have hz6 : (sumN (strOfNums (pageHead k l m p ++ List.replicate (56 - n - p.size) 0)) n).size = n := sumN_size _ _
      have hz7 : ¬ (9223372036854775807 < n + (8 + p.size + (56 - n - p.size))) := by omega
      go_wp2_with (go_at_call 86; refine (sum_s _ _ n (by rw [hsz]; omega) (by omega) (by omega)).mono ?_; rintro e w6 ⟨rfl, hb6⟩)
      go_ret
      exact ⟨rfl, hbl.trans (hb6.mono hbl.size)⟩

theorem form_s_no (k l m : Int) (p : ByteArray) (n : Int) (w : World) (hp : p.size ≤ 1048576) (hok : pageOk k l m p n = false) :
    Calls Tryz.prog 45 #[pageV k l m p, .int .i64 n] w fun e w' => e = .returned (.string ByteArray.empty) ∧ Below w.heap.size w w' := by
  go_enter Tryz.func45, Tryz.ntmps45
  go_wp2_with (go_at_call 85; refine (ok_s k l m p n _ hp).mono ?_; rw [hok]; rintro e w1 ⟨rfl, hb1⟩)
  go_ret
  exact ⟨rfl, ((Below.refl _ _).alloc (Nat.le_refl _) _).trans (hb1.mono (by simp))⟩
end Go.Proofs.YtnmaknnnmjfhkafGreatDoor
