import Derived.Test.YtnmaknnnmjfhkadProg
import Derived.Test.YtnmaknnnmjfhkadOpA
import Derived.WalkKit
import Derived.WalkSpells
import Derived.WalkLawsBesides
import Derived.Outline
import Derived.BigQuiet
import Derived.Deep.QuietTactic
import Derived.Deep.RegionHeld3
namespace Go.Proofs.Ytnmaknnnmjfhkad
open Go.RowKit
set_option maxRecDepth 4000
set_option linter.unusedVariables false

set_option maxHeartbeats 400000 in
theorem eq_op (g0 : Bool) (n1 : Int) (s2 : ByteArray) (w : World) :
    Calls Try.prog 104 #[.agg #[.bool g0, .int .i64 n1, .string s2], .agg #[.bool g0, .int .i64 n1, .string s2]] w fun e w' => e = .returned (.bool true) ∧ Below w.heap.size w w' := by
  go_enter Try.func104, Try.ntmps104
  go_wp2
  go_ret
  exact ⟨rfl, ((Below.refl _ _).alloc (Nat.le_refl _) _).alloc (by simp) _⟩

set_option maxHeartbeats 400000 in
theorem eq_ops (a b : Option Addr) (rs : List (Bool × Int × ByteArray)) (c c' : Nat) (w : World) (h : Ops w a rs) (h' : Ops w b rs) (hl : rs.length ≤ 1048576) :
    Calls Try.prog 43 #[.slice a rs.length c, .slice b rs.length c'] w fun e w' => e = .returned (.bool true) ∧ Below w.heap.size w w' := by
  go_enter Try.func43, Try.ntmps43
  go_wp2
  go_loopw [5] (fun i wr => ∃ k : Nat, k ≤ rs.length ∧ i = .int .i64 k ∧ Below w.heap.size w wr) (fun i _ => rs.length - (intOf i).toNat)
  case atStart => exact ⟨0, Nat.zero_le _, rfl, Below.refl _ _⟩
  case round =>
    obtain ⟨k, hk, rfl, hbel⟩ := hrel
    by_cases hlt : k < rs.length
    · obtain ⟨b1, o1, g0, n1, s2, rfl, hc0, hc1, hc2, HS⟩ := (h.below hbel).at hlt
      obtain ⟨b2, o2, g0x, n1x, s2x, rfl, hd0, hd1, hd2, HS'⟩ := (h'.below hbel).at hlt
      obtain ⟨rfl, rfl, rfl⟩ : g0 = g0x ∧ n1 = n1x ∧ s2 = s2x := by have := HS.out.trans HS'.out.symm; simpa using this
      have hk1 : (k : Int) < (rs.length : Int) := by omega
      have hk0 : (0 : Int) ≤ (k : Int) := by omega
      have lt1 : b1 < wr.heap.size := by have := World.block_lt_of_cell? wr _ hc0; simpa using this
      have lt2 : b2 < wr.heap.size := by have := World.block_lt_of_cell? wr _ hd0; simpa using this
      have HQ : Hid (wr.cell? ⟨b1, o1 + k * 3, none⟩ = some (.bool g0) ∧ wr.cell? ⟨b1, o1 + k * 3 + 1, none⟩ = some (.int .i64 n1) ∧ wr.cell? ⟨b1, o1 + k * 3 + 2, none⟩ = some (.string s2) ∧ wr.cell? ⟨b2, o2 + k * 3, none⟩ = some (.bool g0) ∧ wr.cell? ⟨b2, o2 + k * 3 + 1, none⟩ = some (.int .i64 n1) ∧ wr.cell? ⟨b2, o2 + k * 3 + 2, none⟩ = some (.string s2)) := ⟨hc0, hc1, hc2, hd0, hd1, hd2⟩
      clear HS HS' hc0 hc1 hc2 hd0 hd1 hd2
      go_wp2_with fail
      go_region_held3 (fun w' => w'.cell? ⟨b1, o1 + k * 3, none⟩ = some (.bool g0) ∧ w'.cell? ⟨b1, o1 + k * 3 + 1, none⟩ = some (.int .i64 n1) ∧ w'.cell? ⟨b1, o1 + k * 3 + 2, none⟩ = some (.string s2) ∧ w'.cell? ⟨b2, o2 + k * 3, none⟩ = some (.bool g0) ∧ w'.cell? ⟨b2, o2 + k * 3 + 1, none⟩ = some (.int .i64 n1) ∧ w'.cell? ⟨b2, o2 + k * 3 + 2, none⟩ = some (.string s2))
        (first | assumption | exact HQ.out | exact ⟨(hb2.cell (p := ⟨b1, _, none⟩) lt1).trans HQ.out.1, (hb2.cell (p := ⟨b1, _, none⟩) lt1).trans HQ.out.2.1, (hb2.cell (p := ⟨b1, _, none⟩) lt1).trans HQ.out.2.2.1, (hb2.cell (p := ⟨b2, _, none⟩) lt2).trans HQ.out.2.2.2.1, (hb2.cell (p := ⟨b2, _, none⟩) lt2).trans HQ.out.2.2.2.2.1, (hb2.cell (p := ⟨b2, _, none⟩) lt2).trans HQ.out.2.2.2.2.2⟩)
        (first | (go_at_call 104; refine (eq_op g0 n1 s2 _).mono ?_; rintro e w2 ⟨rfl, hb2⟩))
      go_wp2
      go_roundw
      case rel => exact ⟨k + 1, by omega, by go_num, hbel.drew.trans (hb2.mono hbel.size)⟩
      case measure => simp [intOf]; omega
    · go_wp2
      go_ret
      exact ⟨rfl, hbel⟩
end Go.Proofs.Ytnmaknnnmjfhkad
