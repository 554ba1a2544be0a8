import Derived.Test.YtnmaknnnmjfhkaeDoorQxScanTo
namespace Go.Proofs.YtnmaknnnmjfhkaeDoor
open Go.RowKit
set_option maxRecDepth 4000

set_option maxHeartbeats 400000 in
theorem eq_strs (a b : Option Addr) (ss : List ByteArray) (c c' : Nat) (w : World) (h : Strs w a ss) (h' : Strs w b ss) (hl : ss.length ≤ 1048576) :
    Calls Tryd.prog 61 #[.slice a ss.length c, .slice b ss.length c'] w fun e w' => e = .returned (.bool true) ∧ Below w.heap.size w w' := by
  go_enter Tryd.func61, Tryd.ntmps61
  go_wp2
  go_loopw [5] (fun i wr => ∃ k : Nat, k ≤ ss.length ∧ i = .int .i64 k ∧ Below w.heap.size w wr) (fun i _ => ss.length - (intOf i).toNat)
  case atStart => exact ⟨0, Nat.zero_le _, rfl, Below.refl _ _⟩
  case round =>
    obtain ⟨k, hk, rfl, hbel⟩ := hrel
    by_cases hlt : k < ss.length
    · obtain ⟨b1, o1, s, rfl, hc, HS⟩ := (h.below hbel).at hlt
      obtain ⟨b2, o2, s', rfl, hc', HS'⟩ := (h'.below hbel).at hlt
      obtain rfl : s = s' := HS.out.trans HS'.out.symm
      have hk1 : (k : Int) < (ss.length : Int) := by omega
      have hk0 : (0 : Int) ≤ (k : Int) := by omega
      clear HS HS'
      go_wp2_with fail
      go_quiet (fail)
      go_wp2
      go_roundw
      case rel => exact ⟨k + 1, by omega, by go_num, below_drewN hbel _⟩
      case measure => simp [intOf]; omega
    · go_wp2
      go_ret
      exact ⟨rfl, hbel⟩

set_option maxHeartbeats 400000 in
theorem eq_wr (n : Int) (s : ByteArray) (w : World) :
    Calls Tryd.prog 88 #[.agg #[.int .i64 n, .string s], .agg #[.int .i64 n, .string s]] w fun e w' => e = .returned (.bool true) ∧ Below w.heap.size w w' := by
  go_enter Tryd.func88, Tryd.ntmps88
  go_wp2
  go_ret
  exact ⟨rfl, ((Below.refl _ _).alloc (Nat.le_refl _) _).alloc (by simp) _⟩

set_option maxHeartbeats 400000 in
theorem eq_wrs (a b : Option Addr) (ws : List (Int × ByteArray)) (c c' : Nat) (w : World) (h : Wrs w a ws) (h' : Wrs w b ws) (hl : ws.length ≤ 1048576) :
    Calls Tryd.prog 62 #[.slice a ws.length c, .slice b ws.length c'] w fun e w' => e = .returned (.bool true) ∧ Below w.heap.size w w' := by
  go_enter Tryd.func62, Tryd.ntmps62
  go_wp2
  go_loopw [5] (fun i wr => ∃ k : Nat, k ≤ ws.length ∧ i = .int .i64 k ∧ Below w.heap.size w wr) (fun i _ => ws.length - (intOf i).toNat)
  case atStart => exact ⟨0, Nat.zero_le _, rfl, Below.refl _ _⟩
  case round =>
    obtain ⟨k, hk, rfl, hbel⟩ := hrel
    by_cases hlt : k < ws.length
    · obtain ⟨b1, o1, n, s, rfl, hc, hd, HS⟩ := (h.below hbel).at hlt
      obtain ⟨b2, o2, n', s', rfl, hc', hd', HS'⟩ := (h'.below hbel).at hlt
      obtain ⟨rfl, rfl⟩ : n = n' ∧ s = s' := by have := HS.out.trans HS'.out.symm; simpa using this
      have hk1 : (k : Int) < (ws.length : Int) := by omega
      have hk0 : (0 : Int) ≤ (k : Int) := by omega
      have lt1 : b1 < wr.heap.size := by have := World.block_lt_of_cell? wr _ hc; simpa using this
      have lt2 : b2 < wr.heap.size := by have := World.block_lt_of_cell? wr _ hc'; simpa using this
      have HQ := hid (And.intro hc (And.intro hd (And.intro hc' hd')))
      clear HS HS' hc hd hc' hd'
      go_wp2_with fail
      go_region_held3 (fun w' => w'.cell? ⟨b1, o1 + k * 2, none⟩ = some (.int .i64 n) ∧ w'.cell? ⟨b1, o1 + k * 2 + 1, none⟩ = some (.string s) ∧ w'.cell? ⟨b2, o2 + k * 2, none⟩ = some (.int .i64 n) ∧ w'.cell? ⟨b2, o2 + k * 2 + 1, none⟩ = some (.string s))
        (first | assumption | exact HQ.out | exact ⟨(hb2.cell (p := ⟨b1, _, none⟩) lt1).trans HQ.out.1, (hb2.cell (p := ⟨b1, _, none⟩) lt1).trans HQ.out.2.1, (hb2.cell (p := ⟨b2, _, none⟩) lt2).trans HQ.out.2.2.1, (hb2.cell (p := ⟨b2, _, none⟩) lt2).trans HQ.out.2.2.2⟩)
        (first | (go_at_call 88; refine (eq_wr n s _).mono ?_; rintro e w2 ⟨rfl, hb2⟩))
      go_wp2
      go_roundw
      case rel => exact ⟨k + 1, by omega, by go_num, hbel.drew.trans (hb2.mono hbel.size)⟩
      case measure => simp [intOf]; omega
    · go_wp2
      go_ret
      exact ⟨rfl, hbel⟩

set_option maxHeartbeats 400000 in
theorem eq_disk (a b : Option Addr) (ss : List ByteArray) (c d : Nat) (a' b' : Option Addr) (ws : List (Int × ByteArray)) (c' d' : Nat) (w : World) (h1 : Strs w a ss) (h2 : Strs w b ss) (h3 : Wrs w a' ws) (h4 : Wrs w b' ws) (hl : ss.length ≤ 1048576) (hl' : ws.length ≤ 1048576) :
    Calls Tryd.prog 21 #[diskV a ss.length c a' ws.length c', diskV b ss.length d b' ws.length d'] w fun e w' => e = .returned (.bool true) ∧ Below w.heap.size w w' := by
  have hb0 : ∀ o1 o2, Below w.heap.size w ((w.alloc o1).alloc o2) := fun o1 o2 => ((Below.refl _ _).alloc (Nat.le_refl _) _).alloc (by simp) _
  go_enter Tryd.func21, Tryd.ntmps21
  go_wp2_with fail
  refine (eq_strs a b ss c d _ (h1.below (hb0 _ _)) (h2.below (hb0 _ _)) hl).mono ?_
  rintro e w1 ⟨rfl, hb1⟩
  have hB1 := (hb0 _ _).trans (hb1.mono (by simp; omega))
  obtain ⟨q1, q2⟩ := bcell hb1
  clear hb1
  go_wp2_with fail
  refine (eq_wrs a' b' ws c' d' _ (h3.below hB1) (h4.below hB1) hl').mono ?_
  rintro e w2 ⟨rfl, hb2⟩
  clear q1 q2
  go_wp2
  go_ret
  exact ⟨rfl, hB1.trans (hb2.mono hB1.size)⟩
end Go.Proofs.YtnmaknnnmjfhkaeDoor
