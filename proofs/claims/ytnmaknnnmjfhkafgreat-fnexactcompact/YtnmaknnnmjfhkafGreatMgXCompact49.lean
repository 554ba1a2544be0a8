import Derived.Test.YtnmaknnnmjfhkafGreatMgXCompact48
import Derived.Test.YtnmaknnnmjfhkafGreatProg
import Derived.Test.YtnmaknnnmjfhkafGreatMgXCompact15
import Derived.WalkKit
import Derived.WalkSpells
import Derived.WalkLawsBesides
import Derived.Outline
import Derived.BigQuiet
import Derived.Deep.QuietTactic
import Derived.Deep.RegionHeld3

set_option maxHeartbeats 16000000
set_option maxRecDepth 8000
namespace Go.Proofs.YtnmaknnnmjfhkafGreat
open Go.RowKit
set_option maxRecDepth 4000
set_option linter.unusedVariables false
set_option linter.unusedSimpArgs false

set_option maxHeartbeats 16000000 in
theorem held_ops (a : Option Addr) (n c k : Nat) (w : World) (h : OwnS w a (opcells (opmarks k n))) (hk : 0 < k) (hl : k + 3 * n ≤ 100000000) :
    Calls Tryz.prog 34 #[.slice a n c, .int .i64 (k : Int)] w fun e w' => e = .returned (.int .i64 ((k + 3 * n : Nat) : Int)) ∧ Below w.heap.size w w' := by
  rcases h with h | ⟨g, rfl, hrow⟩
  · have hn : n = 0 := by have := congrArg List.length h; rw [opcells_length, opmarks_length, List.length_nil] at this; omega
    subst hn
    go_enter Tryz.func34, Tryz.ntmps34
    go_wp2
    refine wp_loop_rounds 1 ?_
    rw [rounds_succ]
    go_wp2
    go_ret
    exact ⟨rfl, Below.refl _ _⟩
  · have HROW := hid hrow
    clear hrow
    go_enter Tryz.func34, Tryz.ntmps34
    go_wp2
    go_loopw [1, 5] (fun x i wr => ∃ j m : Nat, j ≤ n ∧ i = .int .i64 (j : Int) ∧ x = .int .i64 (m : Int) ∧ Hid (m = k + 3 * j) ∧ Below w.heap.size w wr) (fun _ i _ => n - (intOf i).toNat)
    case atStart => exact ⟨0, k, Nat.zero_le _, rfl, rfl, hid rfl, Below.refl _ _⟩
    case round =>
      obtain ⟨j, m, hj, rfl, rfl, HM, hbel⟩ := hrel
      have HR := hid (HROW.out.below hbel)
      have HB := hid hbel
      clear hbel
      by_cases hlt : j < n
      · have hmj : (m : Int) ≤ 99999997 := by have := HM.out; omega
        have hmj0 : (0 : Int) < (m : Int) := by have := HM.out; omega
        have hj0 : (0 : Int) ≤ (j : Int) := by omega
        have hj1 : (j : Int) < (n : Int) := by omega
        have hat := opcells_at (opmarks k n) j (by rw [opmarks_length]; exact hlt)
        have hgd : (opmarks k n).getD j (false, 0, ByteArray.empty) = opm m := by rw [HM.out]; simp [opmarks, List.getD, hlt]
        rw [hgd] at hat
        obtain ⟨G, HGG⟩ : ∃ G, Hid (G = decide (m % 3 = 0)) := ⟨_, hid rfl⟩
        have hgn : (((m : Int)) % 3 == 0) = G := by rw [HGG.out, Bool.eq_iff_iff]; simp; omega
        have hc0 : wr.cell? ⟨g, j * 3, none⟩ = some (.bool G) := by rw [HGG.out]; exact HR.out.cell _ _ hat.1
        have hc1 : wr.cell? ⟨g, j * 3 + 1, none⟩ = some (.int .i64 ((m : Int) + 1)) := HR.out.cell _ _ hat.2.1
        have hc2 : wr.cell? ⟨g, j * 3 + 2, none⟩ = some (.string (mtext (m + 2))) := HR.out.cell _ _ hat.2.2
        have lt1 : g < wr.heap.size := HR.out.lt
        have hgq : (G != G) = false := by simp
        clear hat hgd
        go_wp2_with fail
        go_region_held3 (fun w' => w'.cell? ⟨g, j * 3 + 2, none⟩ = some (.string (mtext (m + 2))))
          (first | assumption | exact hc2 | exact (hb2.cell (p := ⟨g, j * 3 + 2, none⟩) lt1).trans hc2)
          (first | (go_at_call 54; refine (mark_text' ((m : Int) + 1 + 1) (m + 2) (by omega) _ (by omega) (by omega)).mono ?_; rintro e w2 ⟨rfl, hb2⟩))
        have HB2 := hid (HB.out.drew.trans (hb2.mono HB.out.size))
        clear hb2
        go_wp2
        exact ⟨⟨j + 1, m + 3, by omega, by go_num, by go_num, by show _ = _; have := HM.out; omega, HB2.out⟩, by simp [intOf]; omega⟩
      · have hjl : Hid (j = n) := by show _ = _; omega
        go_wp2
        go_ret
        exact ⟨ret_int (by rw [HM.out, hjl.out]), HB.out⟩
end Go.Proofs.YtnmaknnnmjfhkafGreat

namespace Go.Proofs.YtnmaknnnmjfhkafGreat
open Go.RowKit
set_option maxRecDepth 4000
set_option linter.unusedVariables false

set_option maxHeartbeats 16000000 in
theorem eq_op (g0 : Bool) (n1 : Int) (s2 : ByteArray) (w : World) :
    Calls Tryz.prog 74 #[.agg #[.bool g0, .int .i64 n1, .string s2], .agg #[.bool g0, .int .i64 n1, .string s2]] w fun e w' => e = .returned (.bool true) ∧ Below w.heap.size w w' := by
  go_enter Tryz.func74, Tryz.ntmps74
  go_wp2
  go_ret
  exact ⟨rfl, ((Below.refl _ _).alloc (Nat.le_refl _) _).alloc (by simp) _⟩

set_option maxHeartbeats 16000000 in
theorem eq_ops (a b : Option Addr) (rs : List (Bool × Int × ByteArray)) (c c' : Nat) (w : World) (h : Ops w a rs) (h' : Ops w b rs) (hl : rs.length ≤ 1048576) :
    Calls Tryz.prog 28 #[.slice a rs.length c, .slice b rs.length c'] w fun e w' => e = .returned (.bool true) ∧ Below w.heap.size w w' := by
  go_enter Tryz.func28, Tryz.ntmps28
  go_wp2
  go_loopw [5] (fun i wr => ∃ k : Nat, k ≤ rs.length ∧ i = .int .i64 k ∧ Below w.heap.size w wr) (fun i _ => rs.length - (intOf i).toNat)
  case atStart => exact ⟨0, Nat.zero_le _, rfl, Below.refl _ _⟩
  case round =>
    obtain ⟨k, hk, rfl, hbel⟩ := hrel
    by_cases hlt : k < rs.length
    · obtain ⟨b1, o1, g0, n1, s2, rfl, hc0, hc1, hc2, HS⟩ := (h.below hbel).at hlt
      obtain ⟨b2, o2, g0x, n1x, s2x, rfl, hd0, hd1, hd2, HS'⟩ := (h'.below hbel).at hlt
      obtain ⟨rfl, rfl, rfl⟩ : g0 = g0x ∧ n1 = n1x ∧ s2 = s2x := by have := HS.out.trans HS'.out.symm; simpa using this
      have hk1 : (k : Int) < (rs.length : Int) := by omega
      have hk0 : (0 : Int) ≤ (k : Int) := by omega
      have lt1 : b1 < wr.heap.size := by have := World.block_lt_of_cell? wr _ hc0; simpa using this
      have lt2 : b2 < wr.heap.size := by have := World.block_lt_of_cell? wr _ hd0; simpa using this
      have HQ : Hid (wr.cell? ⟨b1, o1 + k * 3, none⟩ = some (.bool g0) ∧ wr.cell? ⟨b1, o1 + k * 3 + 1, none⟩ = some (.int .i64 n1) ∧ wr.cell? ⟨b1, o1 + k * 3 + 2, none⟩ = some (.string s2) ∧ wr.cell? ⟨b2, o2 + k * 3, none⟩ = some (.bool g0) ∧ wr.cell? ⟨b2, o2 + k * 3 + 1, none⟩ = some (.int .i64 n1) ∧ wr.cell? ⟨b2, o2 + k * 3 + 2, none⟩ = some (.string s2)) := ⟨hc0, hc1, hc2, hd0, hd1, hd2⟩
      clear HS HS' hc0 hc1 hc2 hd0 hd1 hd2
      go_wp2_with fail
      go_region_held3 (fun w' => w'.cell? ⟨b1, o1 + k * 3, none⟩ = some (.bool g0) ∧ w'.cell? ⟨b1, o1 + k * 3 + 1, none⟩ = some (.int .i64 n1) ∧ w'.cell? ⟨b1, o1 + k * 3 + 2, none⟩ = some (.string s2) ∧ w'.cell? ⟨b2, o2 + k * 3, none⟩ = some (.bool g0) ∧ w'.cell? ⟨b2, o2 + k * 3 + 1, none⟩ = some (.int .i64 n1) ∧ w'.cell? ⟨b2, o2 + k * 3 + 2, none⟩ = some (.string s2))
        (first | assumption | exact HQ.out | exact ⟨(hb2.cell (p := ⟨b1, _, none⟩) lt1).trans HQ.out.1, (hb2.cell (p := ⟨b1, _, none⟩) lt1).trans HQ.out.2.1, (hb2.cell (p := ⟨b1, _, none⟩) lt1).trans HQ.out.2.2.1, (hb2.cell (p := ⟨b2, _, none⟩) lt2).trans HQ.out.2.2.2.1, (hb2.cell (p := ⟨b2, _, none⟩) lt2).trans HQ.out.2.2.2.2.1, (hb2.cell (p := ⟨b2, _, none⟩) lt2).trans HQ.out.2.2.2.2.2⟩)
        (first | (go_at_call 74; refine (eq_op g0 n1 s2 _).mono ?_; rintro e w2 ⟨rfl, hb2⟩))
      go_wp2
      go_roundw
      case rel => exact ⟨k + 1, by omega, by go_num, hbel.drew.trans (hb2.mono hbel.size)⟩
      case measure => simp [intOf]; omega
    · go_wp2
      go_ret
      exact ⟨rfl, hbel⟩
end Go.Proofs.YtnmaknnnmjfhkafGreat
