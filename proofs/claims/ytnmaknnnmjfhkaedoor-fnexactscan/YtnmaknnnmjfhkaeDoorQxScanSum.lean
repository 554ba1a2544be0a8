import Derived.Test.YtnmaknnnmjfhkaeDoorMgXScan1
import Derived.WalkKit
import Derived.WalkSpells
import Derived.WalkLawsBesides
import Derived.Outline
namespace Go.Proofs.YtnmaknnnmjfhkaeDoor
open Go.RowKit
set_option maxRecDepth 4000

set_option maxHeartbeats 400000 in
theorem sum_s (s : ByteArray) (w : World) (n : Nat) (hs : s.size ≤ 1048576) (h1 : 1 ≤ n) (h2 : n ≤ 8) :
    Calls Tryd.prog 72 #[.string s, .int .i64 (n : Int)] w fun e w' => e = .returned (.string (sumN s n)) ∧ Below w.heap.size w w' := by
  have hb1 := bytes1
  have h1' : (1 : Int) ≤ (n : Int) := by omega
  have h2' : (n : Int) ≤ 8 := by omega
  go_enter Tryd.func72, Tryd.ntmps72
  go_wp2
  go_loop [5, 6] (fun v i => ∃ k : Nat, k ≤ s.size ∧ i = .int .i64 k ∧ v = .int .u64 (fnv (s.data.toList.take k))) (fun _ i => s.size - (intOf i).toNat)
  case atStart => exact ⟨0, Nat.zero_le _, rfl, rfl⟩
  case round =>
    obtain ⟨k, hk, rfl, rfl⟩ := hrel
    by_cases hlt : k < s.size
    · have HS : Hid (fnv (s.data.toList.take (k + 1)) = fnvStep (fnv (s.data.toList.take k)) s[k]) := by show _ = _; rw [take_snoc s k hlt, fnv_snoc]
      go_wp2
      go_round
      case rel => exact ⟨k + 1, by omega, by go_num, by rw [HS.out]; rfl⟩
      case measure => simp [intOf]; omega
    · have hke : s.data.toList.take k = s.data.toList := List.take_of_length_le (by simp; omega)
      have HV : Hid (fnv (s.data.toList.take k) = fnv s.data.toList) := by show _ = _; rw [hke]
      clear hke
      obtain ⟨x, HX⟩ : ∃ x, Hid (x = fnv s.data.toList) := ⟨fnv s.data.toList, (rfl : fnv s.data.toList = fnv s.data.toList)⟩
      rw [HV.out, ← HX.out]
      have hx : 0 ≤ x ∧ x ≤ 18446744073709551615 := by rw [HX.out]; exact fnv_bd _
      go_wp2
      go_loopw [5, 7, 8] (fun v o i wr => ∃ k : Nat, k ≤ n ∧ i = .int .i64 k ∧ o = .string (strOfNums (be k x)) ∧ v = .int .u64 (sh k x) ∧ Below w.heap.size w wr) (fun _ _ i _ => n - (intOf i).toNat)
      case atStart => exact ⟨0, Nat.zero_le _, rfl, rfl, rfl, Below.refl _ _⟩
      case round =>
        obtain ⟨k, hk, rfl, rfl, rfl, hbel⟩ := hrel
        have hsb := sh_bd k x hx.1 hx.2
        by_cases hlt : k < n
        · have hz1 : (strOfNums [sh k x % 256]).size ≤ 1 := by rw [strOfNums_size]; simp
          have hz2 : (strOfNums (be k x)).size ≤ 8 := by rw [strOfNums_size, be_length]; omega
          go_wp2
          go_roundw
          case rel => exact ⟨k + 1, by omega, by go_num, by rw [be_succ, ← strOfNums_append]; rfl, rfl, hbel.alloc hbel.size _⟩
          case measure => simp [intOf]; omega
        · have hkn : k = n := by omega
          subst hkn
          go_wp2
          go_ret
          exact ⟨ret_str (by unfold sumN; rw [HX.out]), hbel⟩

theorem sum_s_no (s : ByteArray) (w : World) (n : Int) (h : ¬ (1 ≤ n ∧ n ≤ 8)) :
    Calls Tryd.prog 72 #[.string s, .int .i64 n] w fun e w' => e = .returned (.string ByteArray.empty) ∧ w' = w := by
  go_enter Tryd.func72, Tryd.ntmps72
  have hd : decide (1 ≤ n ∧ n ≤ 8) = false := by simpa using h
  go_wp2_with (go_at_call 34; refine (width_s _ _).mono ?_; rw [hd]; rintro e w' ⟨rfl, rfl⟩)
  go_ret
  exact ⟨rfl, rfl⟩

theorem sum_i_no (s : ByteArray) (w : World) (n : Int) (h : ¬ (1 ≤ n ∧ n ≤ 8)) :
    Calls Tryd.prog 80 #[.string s, .int .i64 n] w fun e w' => e = .returned (.string ByteArray.empty) ∧ w' = w := by
  go_enter Tryd.func80, Tryd.ntmps80
  have hd : decide (1 ≤ n ∧ n ≤ 8) = false := by simpa using h
  go_wp2_with (go_at_call 37; refine (width_i _ _).mono ?_; rw [hd]; rintro e w' ⟨rfl, rfl⟩)
  go_ret
  exact ⟨rfl, rfl⟩

set_option maxHeartbeats 400000 in
theorem put_any (b off n cap : Nat) (x : Int) (w : World) (hn : n ≤ 64) (hx0 : 0 ≤ x) (hx1 : x ≤ 18446744073709551615)
    (hc : ∀ i, i < n → ∃ u, w.cell? ⟨b, off + i, none⟩ = some (.int .u8 u)) (hf : ∀ i, i < n → w.frozen? ⟨b, off + i, none⟩ = false) :
    Calls Tryd.prog 79 #[.slice (some ⟨b, off, none⟩) n cap, .int .u64 x] w fun e w' => e = .returned (.tuple #[]) ∧ Wrote w w' b off (be n x) := by
  go_enter Tryd.func79, Tryd.ntmps79
  go_wp2
  go_loopw [1, 4] (fun v i wr => ∃ k : Nat, k ≤ n ∧ i = .int .i64 ((n : Int) - 1 - k) ∧ v = .int .u64 (sh k x) ∧ Wrote w wr b (off + (n - k)) (be k x)) (fun _ i _ => (intOf i + 1).toNat)
  case atStart => exact ⟨0, Nat.zero_le _, by simp, rfl, by simpa [be] using Wrote.refl w b (off + n)⟩
  case round =>
    obtain ⟨k, hk, rfl, rfl, hwr⟩ := hrel
    have hsb := sh_bd k x hx0 hx1
    by_cases hlt : k < n
    · obtain ⟨u, hu⟩ := hc (n - 1 - k) (by omega)
      have hu' : wr.cell? ⟨b, off + (n - 1 - k), none⟩ = some (.int .u8 u) := (hwr.outside _ (.inl (by omega))).trans hu
      have hf' : wr.frozen? ⟨b, off + (n - 1 - k), none⟩ = false := (hwr.frozen _).trans (hf _ (by omega))
      go_wp2
      go_roundw
      case rel =>
        have hst := Wrote.step (off := off + (n - 1 - k)) (xs := be k x) (by rw [show off + (n - 1 - k) + 1 = off + (n - k) by omega]; exact hwr) (sh k x % 256) hu
        exact ⟨k + 1, by omega, by go_num, rfl, by rw [be_succ, show n - (k + 1) = n - 1 - k by omega]; exact hst⟩
      case measure => simp [intOf]; omega
    · have hkn : k = n := by omega
      subst hkn
      go_wp2
      go_end0
      exact ⟨rfl, by simpa using hwr⟩

set_option maxHeartbeats 400000 in
theorem sum_i (s : ByteArray) (w : World) (n : Nat) (hs : s.size ≤ 1048576) (h1 : 1 ≤ n) (h2 : n ≤ 8) :
    Calls Tryd.prog 80 #[.string s, .int .i64 (n : Int)] w fun e w' => e = .returned (.string (sumN s n)) ∧ Below w.heap.size w w' := by
  have h1' : (1 : Int) ≤ (n : Int) := by omega
  have h2' : (n : Int) ≤ 8 := by omega
  go_enter Tryd.func80, Tryd.ntmps80
  go_wp2
  go_loop [5, 6] (fun v i => ∃ k : Nat, k ≤ s.size ∧ i = .int .i64 k ∧ v = .int .u64 (fnv (s.data.toList.take k))) (fun _ i => s.size - (intOf i).toNat)
  case atStart => exact ⟨0, Nat.zero_le _, rfl, rfl⟩
  case round =>
    obtain ⟨k, hk, rfl, rfl⟩ := hrel
    by_cases hlt : k < s.size
    · have HS : Hid (fnv (s.data.toList.take (k + 1)) = fnvStep (fnv (s.data.toList.take k)) s[k]) := by show _ = _; rw [take_snoc s k hlt, fnv_snoc]
      go_wp2
      go_round
      case rel => exact ⟨k + 1, by omega, by go_num, by rw [HS.out]; rfl⟩
      case measure => simp [intOf]; omega
    · have hke : s.data.toList.take k = s.data.toList := List.take_of_length_le (by simp; omega)
      have HV : Hid (fnv (s.data.toList.take k) = fnv s.data.toList) := by show _ = _; rw [hke]
      clear hke
      obtain ⟨x, HX⟩ : ∃ x, Hid (x = fnv s.data.toList) := ⟨fnv s.data.toList, (rfl : fnv s.data.toList = fnv s.data.toList)⟩
      rw [HV.out, ← HX.out]
      have hx : 0 ≤ x ∧ x ≤ 18446744073709551615 := by rw [HX.out]; exact fnv_bd _
      go_wp2_with fail
      refine (put_any w.heap.size 0 8 8 x _ (by omega) hx.1 hx.2 ?hc ?hf).mono ?_
      case hc => intro i hi; have : i = 0 ∨ i = 1 ∨ i = 2 ∨ i = 3 ∨ i = 4 ∨ i = 5 ∨ i = 6 ∨ i = 7 := by omega
                 rcases this with rfl | rfl | rfl | rfl | rfl | rfl | rfl | rfl <;> exact ⟨0, by simp⟩
      case hf => intro i hi; simp
      rintro e w1 ⟨rfl, hw1⟩
      have hbw : Below w.heap.size w w1 := ((Below.refl _ _).alloc (Nat.le_refl _) _).trans (hw1.below (Nat.le_refl _))
      have hcv := fun cap => run_convert_bytes_arg (P := Tryd.prog) w1 22 5 Tryd.underlying22 Tryd.underlying5 w.heap.size (8 - n) n cap (be n x) (be_length n x) (fun i hi => by
        have h := hw1.inside (8 - n + i) (by rw [be_length]; omega)
        rw [be_get _ _ _ (by omega)] at h
        rw [be_get _ _ _ (by omega), show n - 1 - i = 8 - 1 - (8 - n + i) by omega]
        simpa using h) 9 Tryd.underlying9
      clear hw1
      have hsl := fun wx => slice_arr_from (P := Tryd.prog) (t := 152) Tryd.underlying152 (fun _ => by kernel_rfl) w.heap.size 0 (8 - n) (by omega) .i64 (8 - (n : Int)) (by omega) wx
      rw [show 8 - (8 - n) = n by omega, Nat.zero_add] at hsl
      go_wp2
      go_ret
      exact ⟨ret_str (by unfold sumN; rw [HX.out]), hbw⟩
end Go.Proofs.YtnmaknnnmjfhkaeDoor
