import Derived.Test.YtnmaknnnmjfhkadMkB
import Derived.Test.YtnmaknnnmjfhkadMkT
import Derived.Test.YtnmaknnnmjfhkadOpA
import Derived.WalkKit
import Derived.WalkSpells
import Derived.WalkLawsBesides
import Derived.Outline
import Derived.BigQuiet
import Derived.Deep.QuietTactic
import Derived.Deep.RegionHeld3
namespace Go.Proofs.Ytnmaknnnmjfhkad
open Go.RowKit
set_option maxRecDepth 4000
set_option linter.unusedVariables false
set_option linter.unusedSimpArgs false

theorem getxo {w : World} {g : Nat} {cs : List Value} (h : Row w g cs) (i : Nat) (hi : i < cs.length) : (∃ u, w.cell? ⟨g, i, none⟩ = some u) ∧ w.frozen? ⟨g, i, none⟩ = false := ⟨⟨_, h.cell i _ (List.getElem?_eq_getElem hi)⟩, h.froz i hi⟩
def opm (m : Nat) : Bool × Int × ByteArray := (decide (m % 3 = 0), ((m + 1 : Nat) : Int), mtext (m + 2))
def opmarks (k n : Nat) : List (Bool × Int × ByteArray) := (List.range n).map fun i => opm (k + 3 * i)
theorem opmarks_length (k n : Nat) : (opmarks k n).length = n := by simp [opmarks]
theorem opmarks_succ (k n : Nat) : opmarks k (n + 1) = opmarks k n ++ [opm (k + 3 * n)] := by simp [opmarks, List.range_succ]
def opmixed (k i : Nat) (rs : List (Bool × Int × ByteArray)) : List Value := opcells (opmarks k i ++ rs.drop i)
theorem opmixed_length (k i : Nat) (rs : List (Bool × Int × ByteArray)) (h : i ≤ rs.length) : (opmixed k i rs).length = rs.length * 3 := by simp [opmixed, opcells_length, opmarks_length]; omega
theorem opmixed_set (k i : Nat) (rs : List (Bool × Int × ByteArray)) (h : i < rs.length) : (((opmixed k i rs).set (i * 3) (.bool (decide ((k + 3 * i) % 3 = 0)))).set (i * 3 + 1) (.int .i64 ((k + 3 * i + 1 : Nat) : Int))).set (i * 3 + 2) (.string (mtext (k + 3 * i + 2))) = opmixed k (i + 1) rs := by
  have el : (opcells (opmarks k i)).length = i * 3 := by rw [opcells_length, opmarks_length]
  unfold opmixed
  rw [opmarks_succ, drop_at rs i (false, 0, ByteArray.empty) h, opcells_append, opcells_append, opcells_append, List.set_append_right _ _ (by omega), List.set_append_right _ _ (by omega), List.set_append_right _ _ (by omega), el]
  simp [opcells, opm]

set_option maxHeartbeats 1600000 in
theorem mark_ops (a : Option Addr) (rs : List (Bool × Int × ByteArray)) (c k : Nat) (w : World) (h : OwnS w a (opcells rs)) (hk : 0 < k) (hl : k + 3 * rs.length ≤ 100000000) :
    Calls Try.prog 44 #[.slice a rs.length c, .int .i64 (k : Int)] w fun e w' => e = .returned (.int .i64 ((k + 3 * rs.length : Nat) : Int)) ∧ w.grownBy w' (blk a rs.length) ∧ OwnS w' a (opcells (opmarks k rs.length)) := by
  by_cases hss : rs = []
  · skip
    subst hss
    go_enter Try.func44, Try.ntmps44
    go_wp2
    refine wp_loop_rounds 1 ?_
    rw [rounds_succ]
    go_wp2
    go_ret
    exact ⟨rfl, grown_refl _ _, .inl rfl⟩
  · obtain ⟨g, rfl, hrow⟩ := h.resolve_left (fun e => hss (by have := congrArg List.length e; rw [opcells_length, List.length_nil] at this; exact List.eq_nil_of_length_eq_zero (by omega)))
    rw [blk_pos g 0 rs.length (fun e => hss (List.eq_nil_of_length_eq_zero e))]
    have hr0 : Row w g (opmixed k 0 rs) := by simpa [opmixed, opmarks] using hrow
    clear hrow hss
    go_enter Try.func44, Try.ntmps44
    go_wp2
    go_loopw [1, 5] (fun x i wr => ∃ j m : Nat, j ≤ rs.length ∧ i = .int .i64 (j : Int) ∧ x = .int .i64 (m : Int) ∧ Hid (m = k + 3 * j) ∧ Row wr g (opmixed k j rs) ∧ w.grownBy wr (some g)) (fun _ i _ => rs.length - (intOf i).toNat)
    case atStart => exact ⟨0, k, Nat.zero_le _, rfl, rfl, hid rfl, hr0, grown_refl _ _⟩
    case round =>
      clear hr0
      obtain ⟨j, m, hj, rfl, rfl, HM, hrow, hgr⟩ := hrel
      have HR := hid hrow
      have HG := hid hgr
      clear hgr hrow
      by_cases hlt : j < rs.length
      · have HL := hid (opmixed_length k j rs hj)
        have hmj : (m : Int) ≤ 99999997 := by have := HM.out; omega
        have hmj0 : (0 : Int) < (m : Int) := by have := HM.out; omega
        have hgn : (((m : Int)) % 3 == 0) = decide (m % 3 = 0) := by rw [Bool.eq_iff_iff]; simp; omega
        obtain ⟨⟨u0, hu0⟩, hf0⟩ := getxo HR.out (j * 3) (by rw [HL.out]; omega)
        obtain ⟨⟨u1, hu1⟩, hf1⟩ := getxo HR.out (j * 3 + 1) (by rw [HL.out]; omega)
        have HR1 := hid ((HR.out.set (j * 3) (by rw [HL.out]; omega) (.bool (decide (m % 3 = 0)))).set (j * 3 + 1) (by rw [List.length_set, HL.out]; omega) (.int .i64 ((m : Int) + 1)))
        go_wp2_with (go_at_call 97; refine (mark_text' ((m : Int) + 1 + 1) (m + 2) (by omega) _ (by omega) (by omega)).mono ?_; rintro e w3 ⟨rfl, hb3⟩; (try rw [hgn] at hb3); have HR3 := hid (HR1.out.below hb3); have hu4 := getxo HR3.out (j * 3 + 2) (by rw [List.length_set, List.length_set, HL.out]; omega); obtain ⟨⟨u4, hu4⟩, hf4⟩ := hu4; have HG3 := hid (grown_trans (grown_set (grown_set HG.out _ _) _ _) (grown_of_below _ hb3)); clear hb3)
        have hset : (((opmixed k j rs).set (j * 3) (.bool (decide (m % 3 = 0)))).set (j * 3 + 1) (.int .i64 ((m : Int) + 1))).set (j * 3 + 2) (.string (mtext (m + 2))) = opmixed k (j + 1) rs := by
          rw [HM.out, ← opmixed_set k j rs hlt]; rfl
        refine ⟨⟨j + 1, m + 3, by omega, by go_num, by go_num, by show _ = _; have := HM.out; omega, ?_, grown_set HG3.out _ _⟩, by simp [intOf]; omega⟩
        rw [← hset]
        exact HR3.out.set (j * 3 + 2) (by rw [List.length_set, List.length_set, HL.out]; omega) _
      · have hjl : Hid (j = rs.length) := by show _ = _; omega
        go_wp2
        go_ret
        refine ⟨ret_int (by rw [HM.out, hjl.out]), HG.out, .inr ⟨g, rfl, ?_⟩⟩
        have := HR.out
        rw [hjl.out] at this
        simpa [opmixed] using this

end Go.Proofs.Ytnmaknnnmjfhkad
