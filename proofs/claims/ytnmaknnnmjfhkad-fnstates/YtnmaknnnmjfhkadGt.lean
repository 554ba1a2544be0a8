import Derived.Test.YtnmaknnnmjfhkadShc
import Derived.Test.YtnmaknnnmjfhkadPrA
import Derived.Sort.Walk0
import Derived.WalkKit
import Derived.WalkSpells
import Derived.WalkLawsBesides
import Derived.Outline
namespace Go.Proofs.Ytnmaknnnmjfhkad
open Go.RowKit Go.Sort
set_option maxRecDepth 4000
set_option linter.unusedVariables false
set_option linter.unusedSimpArgs false

theorem u8_tri (a b : UInt8) (h1 : ¬ a < b) (h2 : ¬ b < a) : a = b := by
  apply UInt8.toNat_inj.1
  rw [UInt8.lt_iff_toNat_lt] at h1 h2
  omega
theorem cb_lt : ∀ (x y : List UInt8), Lib.compareBytes x y < 0 ↔ x < y
  | [], [] => by simp [Lib.compareBytes]
  | [], b :: l2 => by simp [Lib.compareBytes]
  | a :: l, [] => by simp [Lib.compareBytes]
  | a :: l, b :: l2 => by
    rw [List.cons_lt_cons_iff]
    unfold Lib.compareBytes
    split
    · rename_i h; simp [h]
    · rename_i h
      split
      · rename_i h2
        have hne : ¬ a = b := fun e => by subst e; exact h h2
        simp [h, hne]
      · rename_i h2
        have e := u8_tri a b h h2
        subst e
        rw [cb_lt l l2]
        simp [h]
theorem cb_zero : ∀ (x y : List UInt8), Lib.compareBytes x y = 0 ↔ x = y
  | [], [] => by simp [Lib.compareBytes]
  | [], b :: l2 => by simp [Lib.compareBytes]
  | a :: l, [] => by simp [Lib.compareBytes]
  | a :: l, b :: l2 => by
    unfold Lib.compareBytes
    split
    · rename_i h
      have hne : ¬ a = b := fun e => by subst e; rw [UInt8.lt_iff_toNat_lt] at h; omega
      simp [hne]
    · rename_i h
      split
      · rename_i h2
        have hne : ¬ a = b := fun e => by subst e; exact h h2
        simp [hne]
      · rename_i h2
        have e := u8_tri a b h h2
        subst e
        rw [cb_zero l l2]
        simp
theorem cmpB_lt (a b : ByteArray) : cmpB a b < 0 ↔ Op.bytesLess a.toList b.toList = true := by
  unfold cmpB
  rw [cb_lt, bytesLess_eq, decide_eq_true_eq, ByteArray.toList_eq, ByteArray.toList_eq]
theorem cmpB_zero (a b : ByteArray) : cmpB a b = 0 ↔ a = b := by
  unfold cmpB
  rw [cb_zero]
  constructor
  · intro h; exact ByteArray.ext (Array.ext' h)
  · intro h; rw [h]
theorem cmp_i (k v key : ByteArray) (w : World) : Calls Try.prog 121 #[.agg #[.string k, .string v], .string key] w fun e w' => e = .returned (.int .i64 (cmpB k key)) ∧ Below w.heap.size w w' := by
  go_enter Try.func121, Try.ntmps121
  go_wp2_with (go_at_call 122; refine (compare_i k key _).mono ?_; rintro e w2 ⟨rfl, rfl⟩)
  go_ret
  exact ⟨rfl, (Below.refl _ _).alloc (Nat.le_refl _) _⟩

/-- The key at a place of a list of pairs. -/
def kAt (rs : List (ByteArray × ByteArray)) (t : Nat) : ByteArray := (rs.getD t (ByteArray.empty, ByteArray.empty)).1

set_option maxHeartbeats 1000000 in
theorem bs_i (a : Option Addr) (rs : List (ByteArray × ByteArray)) (c : Nat) (key : ByteArray) (w : World) (h : Prs w a rs) (hl : rs.length ≤ 1048576) (hmono : Hid (∀ t m, t ≤ m → m < rs.length → cmpB (kAt rs m) key < 0 → cmpB (kAt rs t) key < 0)) :
    Calls Try.prog 120 #[.slice a rs.length c, .string key, .func (.func 121) #[] #[]] w fun e w' =>
      ∃ p : Nat, p ≤ rs.length ∧ (∀ t, t < p → cmpB (kAt rs t) key < 0) ∧ (∀ t, p ≤ t → t < rs.length → 0 ≤ cmpB (kAt rs t) key) ∧ e = .returned (.tuple #[.int .i64 (p : Int), .bool (decide (p < rs.length ∧ cmpB (kAt rs p) key = 0))]) ∧ Below w.heap.size w w' := by
  go_enter Try.func120, Try.ntmps120
  go_wp2_with fail
  go_loopw [9, 10, 11] (fun i j _ wr => ∃ p q : Nat, p ≤ q ∧ q ≤ rs.length ∧ i = .int .i64 (p : Int) ∧ j = .int .i64 (q : Int) ∧ Hid (∀ t, t < p → cmpB (kAt rs t) key < 0) ∧ Hid (∀ t, q ≤ t → t < rs.length → 0 ≤ cmpB (kAt rs t) key) ∧ Below w.heap.size w wr) (fun i j _ _ => (intOf j).toNat - (intOf i).toNat)
  case atStart => exact ⟨0, rs.length, Nat.zero_le _, Nat.le_refl _, rfl, rfl, fun t ht => by omega, fun t h1 h2 => by omega, Below.refl _ _⟩
  case round =>
    obtain ⟨p, q, hpq, hq, rfl, rfl, HA, HZ, hbel⟩ := hrel
    by_cases hlt : p < q
    · obtain ⟨m, hm⟩ : ∃ m : Nat, m = (p + q) / 2 := ⟨_, rfl⟩
      have hm1 : p ≤ m := by omega
      have hm2 : m < q := by omega
      have hmi : ((p : Int) + (q : Int)) / 2 = (m : Int) := by omega
      obtain ⟨b, o, s0, s1, rfl, hc0, hc1, HS⟩ := (h.below hbel).at (show m < rs.length by omega)
      have HK : Hid (s0 = kAt rs m) := by show _ = _; unfold kAt; rw [← HS.out]
      have hlt' : (p : Int) < (q : Int) := by omega
      obtain ⟨C, HC⟩ : ∃ C, Hid (C = cmpB s0 key) := ⟨_, hid rfl⟩
      clear hm
      have HZZ := HZ
      have HAA := HA
      clear HZ HA
      by_cases hC : C < 0
      · go_wp2_with (go_at_call 121; refine (cmp_i s0 s1 key _).mono ?_; rw [← HC.out]; rintro e w2 ⟨rfl, hb2⟩)
        refine ⟨⟨m + 1, q, by omega, hq, by go_num, rfl, fun t ht => ?_, HZZ.out, hbel.trans (hb2.mono hbel.size)⟩, by simp [intOf]; omega⟩
        exact hmono.out t m (by omega) (by omega) (by rw [← HK.out, ← HC.out]; exact hC)
      · go_wp2_with (go_at_call 121; refine (cmp_i s0 s1 key _).mono ?_; rw [← HC.out]; rintro e w2 ⟨rfl, hb2⟩)
        refine ⟨⟨p, m, by omega, by omega, rfl, rfl, HAA.out, fun t h1 h2 => Int.not_lt.1 (fun h3 => ?_), hbel.trans (hb2.mono hbel.size)⟩, by simp [intOf]; omega⟩
        have := hmono.out m t h1 h2 h3
        rw [← HK.out, ← HC.out] at this
        omega
    · have hpq' : p = q := by omega
      subst hpq'
      have HZZ := HZ
      have HAA := HA
      clear HZ HA
      by_cases hpn : p < rs.length
      · have hpn' : (p : Int) < (rs.length : Int) := by omega
        obtain ⟨b, o, s0, s1, rfl, hc0, hc1, HS⟩ := (h.below hbel).at hpn
        have HK : Hid (s0 = kAt rs p) := by show _ = _; unfold kAt; rw [← HS.out]
        obtain ⟨C, HC⟩ : ∃ C, Hid (C = cmpB s0 key) := ⟨_, hid rfl⟩
        go_wp2_with (go_at_call 121; refine (cmp_i s0 s1 key _).mono ?_; rw [← HC.out]; rintro e w2 ⟨rfl, hb2⟩)
        go_ret2
        refine ⟨p, hq, HAA.out, HZZ.out, ?_, hbel.trans (hb2.mono hbel.size)⟩
        rw [← HK.out, ← HC.out]
        simp [hpn]
        rw [Bool.eq_iff_iff]; simp
      · have hpn' : (rs.length : Int) ≤ (p : Int) := by omega
        go_wp2
        go_ret2
        refine ⟨p, hq, HAA.out, HZZ.out, ?_, hbel⟩
        simp [hpn]
end Go.Proofs.Ytnmaknnnmjfhkad
