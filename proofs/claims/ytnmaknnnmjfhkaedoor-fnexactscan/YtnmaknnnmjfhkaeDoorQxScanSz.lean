import Derived.Test.YtnmaknnnmjfhkaeDoorProg
import Derived.Test.YtnmaknnnmjfhkaeDoorMgXScan13
import Derived.WalkKit
import Derived.WalkSpells
import Derived.WalkLawsBesides
import Derived.Outline
import Derived.BigQuiet
import Derived.Deep.QuietTactic
import Derived.Deep.RegionHeld3
namespace Go.Proofs.YtnmaknnnmjfhkaeDoor
open Go.RowKit
set_option maxRecDepth 4000

set_option maxHeartbeats 400000 in
theorem sz_strs (a : Option Addr) (ss : List ByteArray) (c : Nat) (left : Int) (w : World) (h : Strs w a ss) (h0 : 0 ≤ left) (h1 : left ≤ 1048576) (hl : ss.length ≤ maxLen) (hs : ∀ s ∈ ss, s.size ≤ maxLen) :
    Calls Tryd.prog 52 #[.slice a ss.length c, .int .i64 left] w fun e w' => e = .returned (.int .i64 (szL (ss.length :: ss.map ByteArray.size) left)) ∧ w' = w := by
  unfold maxLen at hl
  by_cases hn : left - (ss.length : Int) < 0
  · have HR := hid (szL_cons_lt (ss.map ByteArray.size) hn)
    go_enter Tryd.func52, Tryd.ntmps52
    go_wp2
    go_ret
    exact ⟨ret_int HR.out.symm, rfl⟩
  · have HR := hid (szL_cons_ge (ss.map ByteArray.size) hn)
    obtain ⟨R, HE⟩ : ∃ R, Hid (R = szL (ss.length :: ss.map ByteArray.size) left) := ⟨_, hid rfl⟩
    rw [← HE.out]
    go_enter Tryd.func52, Tryd.ntmps52
    go_wp2
    go_loop [1, 5] (fun x i => ∃ (k : Nat) (y : Int), k ≤ ss.length ∧ i = .int .i64 k ∧ x = .int .i64 y ∧ 0 ≤ y ∧ y ≤ 1048576 ∧ Hid (szL ((ss.map ByteArray.size).drop k) y = R)) (fun _ i => ss.length - (intOf i).toNat)
    case atStart => exact ⟨0, _, Nat.zero_le _, rfl, rfl, by omega, by omega, by show _ = _; rw [HE.out, HR.out, List.drop_zero]⟩
    case round =>
      obtain ⟨k, y, hk, rfl, rfl, hy0, hy1, HZ⟩ := hrel
      by_cases hlt : k < ss.length
      · obtain ⟨b, o, s, rfl, hc, HS⟩ := h.at hlt
        have hsz : s.size ≤ 9223372036854775807 := by
          have := hs s (by rw [HS.out]; simp [List.getD, hlt])
          unfold maxLen at this; exact this
        have HD := hid (drop_at (ss.map ByteArray.size) k 0 (by simpa using hlt))
        have HG : Hid ((ss.map ByteArray.size).getD k 0 = s.size) := by show _ = _; rw [HS.out]; simp [List.getD, hlt]
        by_cases hy : y - (s.size : Int) < 0
        · go_wp2
          go_ret
          refine ⟨ret_int ?_, rfl⟩
          rw [← HZ.out, HD.out, HG.out, szL_cons_lt _ hy]
        · go_wp2
          go_round
          case rel => exact ⟨k + 1, _, by omega, by go_num, rfl, by omega, by omega, by show _ = _; rw [← HZ.out, HD.out, HG.out, szL_cons_ge _ hy]⟩
          case measure => simp [intOf]; omega
      · go_wp2
        go_ret
        refine ⟨ret_int ?_, rfl⟩
        rw [← HZ.out, List.drop_of_length_le (by simp; omega)]
        rfl

set_option maxHeartbeats 400000 in
theorem sz_wr (n : Int) (s : ByteArray) (y : Int) (w : World) (h0 : 0 ≤ y) (h1 : y ≤ 1048576) (hs : s.size ≤ 9223372036854775807) :
    Calls Tryd.prog 81 #[.agg #[.int .i64 n, .string s], .int .i64 y] w fun e w' => e = .returned (.int .i64 (if y - (s.size : Int) < 0 then -1 else y - (s.size : Int))) ∧ Below w.heap.size w w' := by
  by_cases hy : y - (s.size : Int) < 0
  · go_enter Tryd.func81, Tryd.ntmps81
    go_wp2
    go_ret
    exact ⟨rfl, (Below.refl _ _).alloc (Nat.le_refl _) _⟩
  · go_enter Tryd.func81, Tryd.ntmps81
    go_wp2
    go_ret
    exact ⟨rfl, (Below.refl _ _).alloc (Nat.le_refl _) _⟩

set_option maxHeartbeats 400000 in
theorem sz_wrs (a : Option Addr) (ws : List (Int × ByteArray)) (c : Nat) (left : Int) (w : World) (h : Wrs w a ws) (h0 : 0 ≤ left) (h1 : left ≤ 1048576) (hl : ws.length ≤ maxLen) (hs : ∀ s ∈ ws, s.2.size ≤ maxLen) :
    Calls Tryd.prog 53 #[.slice a ws.length c, .int .i64 left] w fun e w' => e = .returned (.int .i64 (szL (ws.length :: ws.map fun x => x.2.size) left)) ∧ Below w.heap.size w w' := by
  unfold maxLen at hl
  by_cases hn : left - (ws.length : Int) < 0
  · have HR := hid (szL_cons_lt (ws.map fun x => x.2.size) hn)
    go_enter Tryd.func53, Tryd.ntmps53
    go_wp2
    go_ret
    exact ⟨ret_int HR.out.symm, Below.refl _ _⟩
  · have HR := hid (szL_cons_ge (ws.map fun x => x.2.size) hn)
    obtain ⟨R, HE⟩ : ∃ R, Hid (R = szL (ws.length :: ws.map fun x => x.2.size) left) := ⟨_, hid rfl⟩
    rw [← HE.out]
    go_enter Tryd.func53, Tryd.ntmps53
    go_wp2
    go_loopw [1, 5] (fun x i wr => ∃ (k : Nat) (y : Int), k ≤ ws.length ∧ i = .int .i64 k ∧ x = .int .i64 y ∧ 0 ≤ y ∧ y ≤ 1048576 ∧ Hid (szL ((ws.map fun x => x.2.size).drop k) y = R) ∧ Below w.heap.size w wr) (fun _ i _ => ws.length - (intOf i).toNat)
    case atStart => exact ⟨0, _, Nat.zero_le _, rfl, rfl, by omega, by omega, by show _ = _; rw [HE.out, HR.out, List.drop_zero], Below.refl _ _⟩
    case round =>
      obtain ⟨k, y, hk, rfl, rfl, hy0, hy1, HZ, hbel⟩ := hrel
      by_cases hlt : k < ws.length
      · obtain ⟨b, o, n, s, rfl, hc, hc2, HS⟩ := (h.below hbel).at hlt
        have hsz : s.size ≤ 9223372036854775807 := by
          have := hs (n, s) (by rw [HS.out]; simp [List.getD, hlt])
          unfold maxLen at this; exact this
        have HD := hid (drop_at (ws.map fun x => x.2.size) k 0 (by simpa using hlt))
        have HG : Hid ((ws.map fun x => x.2.size).getD k 0 = s.size) := by
          show _ = _
          have e := HS.out
          simp only [List.getD, List.getElem?_map]
          simp only [List.getD] at e
          rw [List.getElem?_eq_getElem hlt] at e ⊢
          simp only [Option.getD_some] at e
          simp [← e]
        by_cases hy : y - (s.size : Int) < 0
        · have hneg : (-1 : Int) < 0 := by omega
          go_wp2_with (go_at_call 81; refine (sz_wr n s y _ hy0 hy1 hsz).mono ?_; rw [if_pos hy]; rintro e w2 ⟨rfl, hb2⟩)
          go_ret
          refine ⟨ret_int ?_, hbel.trans (hb2.mono hbel.size)⟩
          rw [← HZ.out, HD.out, HG.out, szL_cons_lt _ hy]
        · have hy2 : 0 ≤ y - (s.size : Int) := by omega
          go_wp2_with (go_at_call 81; refine (sz_wr n s y _ hy0 hy1 hsz).mono ?_; rw [if_neg hy]; rintro e w2 ⟨rfl, hb2⟩)
          go_roundw
          case rel => exact ⟨k + 1, _, by omega, by go_num, rfl, by omega, by omega, by show _ = _; rw [← HZ.out, HD.out, HG.out, szL_cons_ge _ (by omega)], hbel.trans (hb2.mono hbel.size)⟩
          case measure => simp [intOf]; omega
      · go_wp2
        go_ret
        refine ⟨ret_int ?_, hbel⟩
        rw [← HZ.out, List.drop_of_length_le (by simp; omega)]
        rfl

@[reducible] def diskV (a : Option Addr) (n c : Nat) (a' : Option Addr) (n' c' : Nat) : Value := .agg #[.slice a n c, .slice a' n' c']
/-- The sizes that are counted of a disk. -/
def szs (ss : List ByteArray) (ws : List (Int × ByteArray)) : List Nat := (ss.length :: ss.map ByteArray.size) ++ (ws.length :: ws.map fun x => x.2.size)

set_option maxHeartbeats 400000 in
theorem sz_disk (a : Option Addr) (ss : List ByteArray) (c : Nat) (a' : Option Addr) (ws : List (Int × ByteArray)) (c' : Nat) (w : World) (h : Strs w a ss) (h' : Wrs w a' ws)
    (hl : ss.length ≤ maxLen) (hs : ∀ s ∈ ss, s.size ≤ maxLen) (hl' : ws.length ≤ maxLen) (hs' : ∀ s ∈ ws, s.2.size ≤ maxLen) :
    Calls Tryd.prog 16 #[diskV a ss.length c a' ws.length c', .int .i64 1048576] w fun e w' => e = .returned (.int .i64 (szL (szs ss ws) 1048576)) ∧ Below w.heap.size w w' := by
  have hb0 : ∀ o, Below w.heap.size w (w.alloc o) := fun o => (Below.refl _ _).alloc (Nat.le_refl _) _
  have hbd := szL_bd (ss.length :: ss.map ByteArray.size) 1048576 (by omega)
  have hno := szL_append_no (ss.length :: ss.map ByteArray.size) (ws.length :: ws.map fun x => x.2.size) 1048576 (by omega)
  have hyes := szL_append_yes (ss.length :: ss.map ByteArray.size) (ws.length :: ws.map fun x => x.2.size) 1048576 (by omega)
  obtain ⟨x, HX⟩ : ∃ x, Hid (x = szL (ss.length :: ss.map ByteArray.size) 1048576) := ⟨_, hid rfl⟩
  obtain ⟨R, HR⟩ : ∃ R, Hid (R = szL (szs ss ws) 1048576) := ⟨_, hid rfl⟩
  rw [← HR.out]
  unfold szs at HR
  rw [← HX.out] at hbd hno hyes
  by_cases hx : x < 0
  · have hRm : R = -1 := by rw [HR.out, hno hx]
    have hx1 : x = -1 := by omega
    clear hno hyes hbd
    have HRm := hid hRm
    have HX1 := hid hx1
    clear hRm hx1
    go_enter Tryd.func16, Tryd.ntmps16
    go_wp2_with fail
    refine (sz_strs a ss c 1048576 _ (h.below (hb0 _)) (by omega) (by omega) hl hs).mono ?_
    rw [← HX.out]
    rintro e w1 ⟨rfl, rfl⟩
    go_wp2
    go_ret
    exact ⟨ret_int HRm.out.symm, hb0 _⟩
  · have HRm := hid (HR.out.trans (hyes (by omega)))
    have hx0 : 0 ≤ x := by omega
    have hx1 : x ≤ 1048576 := by omega
    clear hno hyes hbd hx
    have hbd2 := szL_bd (ws.length :: ws.map fun x => x.2.size) x hx0
    rw [← HRm.out] at hbd2
    go_enter Tryd.func16, Tryd.ntmps16
    go_wp2_with fail
    refine (sz_strs a ss c 1048576 _ (h.below (hb0 _)) (by omega) (by omega) hl hs).mono ?_
    rw [← HX.out]
    rintro e w1 ⟨rfl, rfl⟩
    go_wp2_with fail
    refine (sz_wrs a' ws c' x _ (h'.below (hb0 _)) hx0 hx1 hl' hs').mono ?_
    rw [← HRm.out]
    rintro e w1 ⟨rfl, hb1⟩
    have hb2 := (hb0 _).trans (hb1.mono (by simp))
    clear hb1
    by_cases hR : R < 0
    · have hR1 : Hid (R = -1) := by show R = -1; omega
      clear hbd2
      go_wp2
      go_ret
      exact ⟨ret_int hR1.out.symm, hb2⟩
    · clear hbd2
      go_wp2
      go_ret
      exact ⟨rfl, hb2⟩
end Go.Proofs.YtnmaknnnmjfhkaeDoor
