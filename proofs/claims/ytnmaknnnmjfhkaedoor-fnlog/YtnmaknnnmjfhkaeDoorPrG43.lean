import Derived.Laws.Bits64b
import Derived.Test.YtnmaknnnmjfhkaeDoorPrG27
import Derived.Test.YtnmaknnnmjfhkaeDoorPrG35
import Derived.Test.YtnmaknnnmjfhkaeDoorPrRpS
import Derived.Test.YtnmaknnnmjfhkaeDoorPrG39
import Derived.Test.YtnmaknnnmjfhkaeDoorPrArrEq
set_option maxHeartbeats 16000000
set_option maxRecDepth 8000
namespace Go.Proofs.YtnmaknnnmjfhkaeDoor
open Go.RowKit
set_option maxRecDepth 4000
set_option linter.unusedVariables false
set_option linter.unusedSimpArgs false
theorem or_step (y b : Int) (hy0 : 0 ≤ y) (hy1 : y ≤ 1099511627776) (hb0 : 0 ≤ b) (hb1 : b ≤ 255) : bits .or .u64 (IntKind.u64.wrap (y * 256)) (IntKind.u64.wrap b) = y * 256 + b := by
  rw [wrap_u64_id _ (by omega) (by omega), wrap_u64_id _ (by omega) (by omega)]
  obtain ⟨Y, rfl⟩ : ∃ Y : Nat, y = (Y : Int) := ⟨y.toNat, by omega⟩
  obtain ⟨C, rfl⟩ : ∃ C : Nat, b = (C : Int) := ⟨b.toNat, by omega⟩
  have e : ((Y : Int) * 256) = ((256 * Y : Nat) : Int) := by omega
  rw [e, bits_or_u64_nat _ _ (by omega) (by omega)]
  have := Nat.two_pow_add_eq_or_of_lt (i := 8) (b := C) (by omega) Y
  simp only [Nat.reducePow] at this
  rw [← this]
  omega
theorem nopage_i (s : ByteArray) (ty : TypeId) (v : Value) (w : World) (hv : w.cell? ⟨1, 0, none⟩ = some (.iface ty v)) : Calls Tryd.prog 102 #[.string s] w fun e w' => e = .returned (.iface 157 (.pointer (some ⟨w.heap.size, 0, none⟩))) ∧ w' = w.alloc (.cells #[.string s, .iface ty v] 175) := by
  go_enter Tryd.func102, Tryd.ntmps102
  go_wp2
  go_ret
  exact ⟨rfl, rfl⟩
theorem take_i (F o : Nat) (ys : List Int) (c : Nat) (w : World) (hr : ∀ y ∈ ys, 0 ≤ y ∧ y ≤ 255) (hl : ys.length ≤ 4) (hc : ∀ i, i < ys.length → w.cell? ⟨F, o + i, none⟩ = some (.int .u8 (ys.getD i 0))) : Calls Tryd.prog 95 #[.slice (some ⟨F, o, none⟩) ys.length c] w fun e w' => e = .returned (.int .u64 (numOf ys)) ∧ w' = w := by
  have HC := hid0 hc
  clear hc
  go_enter Tryd.func95, Tryd.ntmps95
  go_wp2
  go_loop [3, 5, 8] (fun x _ i => ∃ (k : Nat) (y : Int), k ≤ ys.length ∧ i = .int .i64 (k : Int) ∧ x = .int .u64 y ∧ Hid (y = numOf (ys.take k)) ∧ 0 ≤ y ∧ Hid (y < (256 : Int) ^ k)) (fun _ _ i => ys.length - (intOf i).toNat)
  case atStart => exact ⟨0, 0, Nat.zero_le _, rfl, rfl, by show _ = _; simp [numOf], by omega, by show _ < _; simp⟩
  case round =>
    obtain ⟨k, y, hk, rfl, rfl, HY, hy0, HY1⟩ := hrel
    by_cases hlt : k < ys.length
    · have hck := HC.out k hlt
      obtain ⟨b, hb⟩ : ∃ b, ys.getD k 0 = b := ⟨_, rfl⟩
      rw [hb] at hck
      obtain ⟨hb0, hb1⟩ : 0 ≤ b ∧ b ≤ 255 := by rw [← hb]; exact hr _ (by simp [List.getD, hlt])
      have hlt' : (k : Int) < (ys.length : Int) := by omega
      have h256 : (256 : Int) ^ k ≤ 16777216 := by
        have : k = 0 ∨ k = 1 ∨ k = 2 ∨ k = 3 := by omega
        rcases this with h | h | h | h <;> rw [h] <;> decide
      have HN : Hid (y * 256 + b = numOf (ys.take (k + 1))) := by
        show _ = _
        rw [List.take_succ_eq_append_getElem hlt, numOf_snoc, ← HY.out, ← hb]
        simp [List.getD, hlt]
      have hst := or_step y b hy0 (by have := HY1.out; omega) hb0 hb1
      have HST : Hid (bits .or .u64 (IntKind.u64.wrap (y * 256)) b = y * 256 + b) := by show _ = _; rw [wrap_u64_id b (by omega) (by omega)] at hst; exact hst
      have hb2 : 0 ≤ y * 256 + b := by omega
      clear hst
      have H3 : Hid (y * 256 + b < (256 : Int) ^ (k + 1)) := by show _ < _; rw [Int.pow_succ]; have := HY1.out; omega
      clear hb h256
      go_wp2
      go_round
      case rel => exact ⟨k + 1, y * 256 + b, by omega, by go_num, congrArg _ HST.out, HN.out, hb2, H3.out⟩
      case measure => simp [intOf]; omega
    · go_wp2
      go_ret
      refine ⟨ret_int' ?_, rfl⟩
      rw [HY.out, List.take_of_length_le (by omega)]
end Go.Proofs.YtnmaknnnmjfhkaeDoor

namespace Go.Proofs.YtnmaknnnmjfhkaeDoor
open Go.RowKit
set_option maxRecDepth 4000
set_option linter.unusedVariables false
set_option linter.unusedSimpArgs false
def prV (E : Addr) (o : Option (Int × Int × Int × ByteArray)) : Value := match o with
  | none => .tuple #[pageV 0 0 0 ⟨#[]⟩, .iface 157 (.pointer (some E))]
  | some (k, l, m, p) => .tuple #[pageV k l m p, .nilIface]
theorem take_fm (F : Nat) (xs : List Int) (hr : Hid (∀ y ∈ xs, 0 ≤ y ∧ y ≤ 255)) (o k c : Nat) (hk : k ≤ 4) (ho : o + k ≤ xs.length) (w : World) (hf : Fm w F xs) (V : Int) (hV : V = numOf ((xs.drop o).take k)) : Calls Tryd.prog 95 #[.slice (some ⟨F, o, none⟩) k c] w fun e w' => e = .returned (.int .u64 V) ∧ w' = w := by
  have hl : ((xs.drop o).take k).length = k := by simp; omega
  have h := take_i F o ((xs.drop o).take k) c w (fun y hy => hr.out y (List.mem_of_mem_drop (List.mem_of_mem_take hy))) (by omega) (fun i hi => by
    rw [hf.cell (o + i) (by omega)]
    rw [hl] at hi
    simp [List.getD, List.getElem?_take_of_lt hi, List.getElem?_drop])
  rw [hl, ← hV] at h
  exact h
set_option maxHeartbeats 16000000 in
theorem parse_no_width (s : ByteArray) (n : Int) (w : World) (ty : TypeId) (v : Value) (hv : w.cell? ⟨1, 0, none⟩ = some (.iface ty v)) (hg : 1 < w.heap.size) (hn : ¬ (1 ≤ n ∧ n ≤ 8)) : Calls Tryd.prog 98 #[.string s, .int .i64 n] w fun e w' => (∃ E, e = .returned (prV E none)) ∧ Below w.heap.size w w' := by
  have hd : decide (1 ≤ n ∧ n ≤ 8) = false := by simpa using hn
  have hb0 : ∀ o o', Below w.heap.size w ((w.alloc o).alloc o') := fun o o' => ((Below.refl _ _).alloc (Nat.le_refl _) _).alloc (by simp) _
  have hva : ∀ o, (w.alloc o).cell? ⟨1, 0, none⟩ = some (.iface ty v) := fun o => (World.cell?_alloc_past _ _ _ (by exact hg)).trans hv
  clear hn
  go_enter Tryd.func98, Tryd.ntmps98
  go_wp2_with (first | (go_at_call 37; refine (width_i _ _).mono ?_; rw [hd]; rintro e w2 ⟨rfl, rfl⟩) | (go_at_call 102; refine (nopage_i _ ty v _ (hva _)).mono ?_; rintro e w2 ⟨rfl, rfl⟩))
  refine bodyPost_ret (v := .tuple #[pageV 0 0 0 ⟨#[]⟩, .iface 157 (.pointer (some ⟨w.heap.size + 1, 0, none⟩))]) (by simp [results, Tryd.results98, go_sem]) rfl ⟨⟨_, rfl⟩, ?_⟩
  exact hb0 _ _
set_option maxHeartbeats 16000000 in
theorem parse_no_size (s : ByteArray) (n : Int) (w : World) (ty : TypeId) (v : Value) (hv : w.cell? ⟨1, 0, none⟩ = some (.iface ty v)) (hg : 1 < w.heap.size) (hn : 1 ≤ n ∧ n ≤ 8) (hs : s.size ≠ 64) : Calls Tryd.prog 98 #[.string s, .int .i64 n] w fun e w' => (∃ E, e = .returned (prV E none)) ∧ Below w.heap.size w w' := by
  have hd : decide (1 ≤ n ∧ n ≤ 8) = true := by simpa using hn
  have hs' : ((s.size : Int) != 64) = true := by simp; omega
  have hb0 : ∀ o o', Below w.heap.size w ((w.alloc o).alloc o') := fun o o' => ((Below.refl _ _).alloc (Nat.le_refl _) _).alloc (by simp) _
  have hva : ∀ o, (w.alloc o).cell? ⟨1, 0, none⟩ = some (.iface ty v) := fun o => (World.cell?_alloc_past _ _ _ (by exact hg)).trans hv
  clear hn hs
  go_enter Tryd.func98, Tryd.ntmps98
  go_wp2_with (first | (go_at_call 37; refine (width_i _ _).mono ?_; rw [hd]; rintro e w2 ⟨rfl, rfl⟩) | (go_at_call 102; refine (nopage_i _ ty v _ (hva _)).mono ?_; rintro e w2 ⟨rfl, rfl⟩))
  refine bodyPost_ret (v := .tuple #[pageV 0 0 0 ⟨#[]⟩, .iface 157 (.pointer (some ⟨w.heap.size + 1, 0, none⟩))]) (by simp [results, Tryd.results98, go_sem]) rfl ⟨⟨_, rfl⟩, ?_⟩
  exact hb0 _ _
end Go.Proofs.YtnmaknnnmjfhkaeDoor
