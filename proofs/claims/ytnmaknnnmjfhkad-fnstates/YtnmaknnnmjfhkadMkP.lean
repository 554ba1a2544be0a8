import Derived.Test.YtnmaknnnmjfhkadMkB
import Derived.Test.YtnmaknnnmjfhkadMkT
import Derived.Test.YtnmaknnnmjfhkadPrA
import Derived.Test.YtnmaknnnmjfhkadStB
import Derived.WalkKit
import Derived.WalkSpells
import Derived.WalkLawsBesides
import Derived.Outline
import Derived.BigQuiet
import Derived.Deep.QuietTactic
import Derived.Deep.RegionHeld3
namespace Go.Proofs.Ytnmaknnnmjfhkad
open Go.RowKit
set_option maxRecDepth 4000
set_option linter.unusedVariables false
set_option linter.unusedSimpArgs false

theorem getxp {w : World} {g : Nat} {cs : List Value} (h : Row w g cs) (i : Nat) (hi : i < cs.length) : (∃ u, w.cell? ⟨g, i, none⟩ = some u) ∧ w.frozen? ⟨g, i, none⟩ = false := ⟨⟨_, h.cell i _ (List.getElem?_eq_getElem hi)⟩, h.froz i hi⟩
def prm (m : Nat) : ByteArray × ByteArray := (mtext m, mtext (m + 1))
def prmarks (k n : Nat) : List (ByteArray × ByteArray) := (List.range n).map fun i => prm (k + 2 * i)
theorem prmarks_length (k n : Nat) : (prmarks k n).length = n := by simp [prmarks]
theorem prmarks_succ (k n : Nat) : prmarks k (n + 1) = prmarks k n ++ [prm (k + 2 * n)] := by simp [prmarks, List.range_succ]
def prmixed (k i : Nat) (rs : List (ByteArray × ByteArray)) : List Value := prcells (prmarks k i ++ rs.drop i)
theorem prmixed_length (k i : Nat) (rs : List (ByteArray × ByteArray)) (h : i ≤ rs.length) : (prmixed k i rs).length = rs.length * 2 := by simp [prmixed, prcells_length, prmarks_length]; omega
theorem prmixed_set (k i : Nat) (rs : List (ByteArray × ByteArray)) (h : i < rs.length) : ((prmixed k i rs).set (i * 2) (.string (mtext (k + 2 * i)))).set (i * 2 + 1) (.string (mtext (k + 2 * i + 1))) = prmixed k (i + 1) rs := by
  have el : (prcells (prmarks k i)).length = i * 2 := by rw [prcells_length, prmarks_length]
  unfold prmixed
  rw [prmarks_succ, drop_at rs i (ByteArray.empty, ByteArray.empty) h, prcells_append, prcells_append, prcells_append, List.set_append_right _ _ (by omega), List.set_append_right _ _ (by omega), el]
  simp [prcells, prm]

set_option maxHeartbeats 1600000 in
theorem mark_prs (a : Option Addr) (rs : List (ByteArray × ByteArray)) (c k : Nat) (w : World) (h : OwnS w a (prcells rs)) (hk : 0 < k) (hl : k + 2 * rs.length ≤ 100000000) :
    Calls Try.prog 96 #[.slice a rs.length c, .int .i64 (k : Int)] w fun e w' => e = .returned (.int .i64 ((k + 2 * rs.length : Nat) : Int)) ∧ w.grownBy w' (blk a rs.length) ∧ OwnS w' a (prcells (prmarks k rs.length)) := by
  by_cases hss : rs = []
  · skip
    subst hss
    go_enter Try.func96, Try.ntmps96
    go_wp2
    refine wp_loop_rounds 1 ?_
    rw [rounds_succ]
    go_wp2
    go_ret
    exact ⟨rfl, grown_refl _ _, .inl rfl⟩
  · obtain ⟨g, rfl, hrow⟩ := h.resolve_left (fun e => hss (by have := congrArg List.length e; rw [prcells_length, List.length_nil] at this; exact List.eq_nil_of_length_eq_zero (by omega)))
    rw [blk_pos g 0 rs.length (fun e => hss (List.eq_nil_of_length_eq_zero e))]
    have hr0 : Row w g (prmixed k 0 rs) := by simpa [prmixed, prmarks] using hrow
    clear hrow hss
    go_enter Try.func96, Try.ntmps96
    go_wp2
    go_loopw [1, 5] (fun x i wr => ∃ j m : Nat, j ≤ rs.length ∧ i = .int .i64 (j : Int) ∧ x = .int .i64 (m : Int) ∧ Hid (m = k + 2 * j) ∧ Row wr g (prmixed k j rs) ∧ w.grownBy wr (some g)) (fun _ i _ => rs.length - (intOf i).toNat)
    case atStart => exact ⟨0, k, Nat.zero_le _, rfl, rfl, hid rfl, hr0, grown_refl _ _⟩
    case round =>
      clear hr0
      obtain ⟨j, m, hj, rfl, rfl, HM, hrow, hgr⟩ := hrel
      have HR := hid hrow
      have HG := hid hgr
      clear hgr hrow
      by_cases hlt : j < rs.length
      · have HL := hid (prmixed_length k j rs hj)
        have hmj : (m : Int) ≤ 99999998 := by have := HM.out; omega
        have hmj0 : (0 : Int) < (m : Int) := by have := HM.out; omega
        go_wp2_with (first | (have _g := HR2; go_at_call 97; refine (mark_text' ((m : Int) + 1) (m + 1) (by omega) _ (by omega) (by omega)).mono ?_; rintro e w3 ⟨rfl, hb3⟩; have HR3 := hid ((HR2.out.set (j * 2) (by rw [HL.out]; omega) (.string (mtext m))).below hb3); have hu3 := getxp HR3.out (j * 2 + 1) (by rw [List.length_set, HL.out]; omega); obtain ⟨⟨u3, hu3⟩, hf3⟩ := hu3; have HG3 := hid (grown_trans (grown_set HG2.out _ _) (grown_of_below _ hb3)); clear hb3) | (go_at_call 97; refine (mark_text m _ (by omega) (by omega)).mono ?_; rintro e w2 ⟨rfl, hb2⟩; have HR2 := hid (HR.out.below hb2); have hu2 := getxp HR2.out (j * 2) (by rw [HL.out]; omega); obtain ⟨⟨u2, hu2⟩, hf2⟩ := hu2; have HG2 := hid (grown_trans HG.out (grown_of_below _ hb2)); clear hb2))
        have hset : ((prmixed k j rs).set (j * 2) (.string (mtext m))).set (j * 2 + 1) (.string (mtext (m + 1))) = prmixed k (j + 1) rs := by
          rw [HM.out]; exact prmixed_set k j rs hlt
        refine ⟨⟨j + 1, m + 2, by omega, by go_num, by go_num, by show _ = _; have := HM.out; omega, ?_, grown_set HG3.out _ _⟩, by simp [intOf]; omega⟩
        rw [← hset]
        exact HR3.out.set (j * 2 + 1) (by rw [List.length_set, HL.out]; omega) _
      · have hjl : Hid (j = rs.length) := by show _ = _; omega
        go_wp2
        go_ret
        refine ⟨ret_int (by rw [HM.out, hjl.out]), HG.out, .inr ⟨g, rfl, ?_⟩⟩
        have := HR.out
        rw [hjl.out] at this
        simpa [prmixed] using this

set_option maxHeartbeats 400000 in
theorem mark_state (a : Option Addr) (rs : List (ByteArray × ByteArray)) (c k : Nat) (w : World) (h : OwnS w a (prcells rs)) (hk : 0 < k) (hl : k + 2 * rs.length ≤ 100000000) :
    Calls Try.prog 36 #[stV a rs.length c, .int .i64 (k : Int)] w fun e w' => e = .returned (.int .i64 ((k + 2 * rs.length : Nat) : Int)) ∧ w.grownBy w' (blk a rs.length) ∧ OwnS w' a (prcells (prmarks k rs.length)) := by
  have hb0 : ∀ o, Below w.heap.size w (w.alloc o) := fun o => (Below.refl _ _).alloc (Nat.le_refl _) _
  go_enter Try.func36, Try.ntmps36
  go_wp2_with fail
  refine (mark_prs a rs c k _ (h.below (hb0 _)) hk hl).mono ?_
  rintro e w1 ⟨rfl, hg1, ho1⟩
  have HG := hid (grown_trans (grown_of_below (blk a rs.length) (hb0 _)) hg1)
  have HO := hid ho1
  clear hg1 ho1
  go_wp2
  go_ret
  exact ⟨rfl, HG.out, HO.out⟩

end Go.Proofs.Ytnmaknnnmjfhkad
