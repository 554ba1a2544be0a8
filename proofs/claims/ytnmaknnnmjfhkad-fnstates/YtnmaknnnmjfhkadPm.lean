import Derived.Test.YtnmaknnnmjfhkadPr
namespace Go.Proofs.Ytnmaknnnmjfhkad
open Go.RowKit
set_option maxRecDepth 4000
set_option linter.unusedVariables false
set_option linter.unusedSimpArgs false
theorem many_b0 (s : ByteArray) (n : Int) (hs : s.size ≤ 64) (hn : n ≤ 1000) : Hid (s.size * n.toNat + ByteArray.empty.size ≤ 64000) := by
  show _ ≤ _
  have h1 : n.toNat ≤ 1000 := by omega
  have h2 := Nat.mul_le_mul hs h1
  have h3 : ByteArray.empty.size = 0 := rfl
  omega
set_option maxHeartbeats 1000000 in
theorem many_r (s : ByteArray) (n : Int) (w : World) (hs : s.size ≤ 64) (hn : n ≤ 1000) : Calls Try.prog 116 #[.string s, .int .i64 n] w fun e w' => (∃ t : ByteArray, e = .returned (.string t) ∧ t.size ≤ 64000) ∧ Below w.heap.size w w' := by
  go_enter Try.func116, Try.ntmps116
  go_wp2
  go_loop [0, 1, 5] (fun sv nv ov => ∃ (t u : ByteArray) (m : Int), sv = .string t ∧ nv = .int .i64 m ∧ ov = .string u ∧ m ≤ 1000 ∧ Hid (t.size * m.toNat + u.size ≤ 64000) ∧ t.size ≤ 128000) (fun _ nv _ => (intOf nv).toNat)
  case atStart => exact ⟨s, ByteArray.empty, n, rfl, rfl, rfl, hn, many_b0 s n hs hn, by omega⟩
  case round =>
    obtain ⟨t, u, m, rfl, rfl, rfl, hm, HB, ht⟩ := hrel
    by_cases h0 : 0 < m
    · obtain ⟨q, r, hq, hr⟩ : ∃ q r : Nat, m.toNat = 2 * q + r ∧ r < 2 := ⟨m.toNat / 2, m.toNat % 2, by omega, by omega⟩
      have hmq : m = 2 * (q : Int) + (r : Int) := by omega
      have hb := HB.out
      rw [hq, Nat.mul_add] at hb
      have e2 : t.size * (2 * q) = 2 * (t.size * q) := by rw [Nat.mul_left_comm]
      rw [e2] at hb
      obtain ⟨P, hP⟩ : ∃ P, t.size * q = P := ⟨_, rfl⟩
      rw [hP] at hb
      have htb : t.size ≤ 64000 := by
        rcases Nat.eq_zero_or_pos r with h | h
        · subst h
          have hq1 : 1 ≤ q := by omega
          have : t.size ≤ t.size * q := Nat.le_mul_of_pos_right _ hq1
          omega
        · have : t.size * 1 ≤ t.size * r := Nat.mul_le_mul_left _ h
          omega
      have z1 : ¬ (9223372036854775807 < t.size + t.size) := by omega
      have hd : m.tdiv 2 = (q : Int) := by rw [Int.tdiv_eq_ediv_of_nonneg (by omega)]; omega
      have hd' : m / 2 = (q : Int) := by omega
      rcases Nat.eq_zero_or_pos r with h | h
      · subst h
        have hr0 : m % 2 = 0 := by omega
        have hr1 : ¬ (m % 2 = 1) := by omega
        have hr2 : ¬ (m.tmod 2 = 1) := by rw [Int.tmod_eq_emod_of_nonneg (by omega)]; omega
        have HN : Hid ((t ++ t).size * ((q : Int)).toNat + u.size ≤ 64000) := by
          show _ ≤ _
          rw [Int.toNat_natCast, ByteArray.size_append, Nat.add_mul, hP]
          omega
        clear HB hb hq
        go_wp2
        exact ⟨⟨_, _, _, rfl, rfl, rfl, by omega, HN.out, by rw [ByteArray.size_append]; omega⟩, by simp [intOf]; omega⟩
      · have hr1 : r = 1 := by omega
        subst hr1
        have hr1 : m % 2 = 1 := by omega
        have hr2 : m.tmod 2 = 1 := by rw [Int.tmod_eq_emod_of_nonneg (by omega)]; omega
        have z2 : ¬ (9223372036854775807 < u.size + t.size) := by omega
        have HN : Hid ((t ++ t).size * ((q : Int)).toNat + (u ++ t).size ≤ 64000) := by
          show _ ≤ _
          rw [Int.toNat_natCast, ByteArray.size_append, ByteArray.size_append, Nat.add_mul, hP]
          omega
        clear HB hb hq
        go_wp2
        exact ⟨⟨_, _, _, rfl, rfl, rfl, by omega, (by rw [show ((2 * (q : Int) + 1) / 2) = (q : Int) by omega]; exact HN.out), by rw [ByteArray.size_append]; omega⟩, by simp [intOf]; omega⟩
    · go_wp2
      go_ret
      exact ⟨⟨u, rfl, by have := HB.out; omega⟩, Below.refl _ _⟩
end Go.Proofs.Ytnmaknnnmjfhkad
