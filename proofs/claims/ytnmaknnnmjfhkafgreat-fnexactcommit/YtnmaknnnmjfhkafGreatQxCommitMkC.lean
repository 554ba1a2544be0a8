import Derived.Test.YtnmaknnnmjfhkafGreatMgXCommit7
import Derived.Test.YtnmaknnnmjfhkafGreatMgXCommit23
import Derived.Test.YtnmaknnnmjfhkafGreatMgXCommit10
import Derived.WalkKit
import Derived.WalkSpells
import Derived.WalkLawsBesides
import Derived.Outline
import Derived.BigQuiet
import Derived.Deep.QuietTactic
import Derived.Deep.RegionHeld3
namespace Go.Proofs.YtnmaknnnmjfhkafGreat
open Go.RowKit
set_option maxRecDepth 4000
set_option linter.unusedVariables false
set_option linter.unusedSimpArgs false

theorem getx {w : World} {g : Nat} {cs : List Value} (h : Row w g cs) (i : Nat) (hi : i < cs.length) : (∃ u, w.cell? ⟨g, i, none⟩ = some u) ∧ w.frozen? ⟨g, i, none⟩ = false := ⟨⟨_, h.cell i _ (List.getElem?_eq_getElem hi)⟩, h.froz i hi⟩
def chm (m : Nat) : ByteArray × ByteArray × Bool := (mtext m, mtext (m + 1), decide ((m + 2) % 3 = 0))
def chmarks (k n : Nat) : List (ByteArray × ByteArray × Bool) := (List.range n).map fun i => chm (k + 3 * i)
theorem chmarks_length (k n : Nat) : (chmarks k n).length = n := by simp [chmarks]
theorem chmarks_succ (k n : Nat) : chmarks k (n + 1) = chmarks k n ++ [chm (k + 3 * n)] := by simp [chmarks, List.range_succ]
def chmixed (k i : Nat) (rs : List (ByteArray × ByteArray × Bool)) : List Value := chcells (chmarks k i ++ rs.drop i)
theorem chmixed_length (k i : Nat) (rs : List (ByteArray × ByteArray × Bool)) (h : i ≤ rs.length) : (chmixed k i rs).length = rs.length * 3 := by simp [chmixed, chcells_length, chmarks_length]; omega
theorem chmixed_set (k i : Nat) (rs : List (ByteArray × ByteArray × Bool)) (h : i < rs.length) : (((chmixed k i rs).set (i * 3) (.string (mtext (k + 3 * i)))).set (i * 3 + 1) (.string (mtext (k + 3 * i + 1)))).set (i * 3 + 2) (.bool (decide ((k + 3 * i + 2) % 3 = 0))) = chmixed k (i + 1) rs := by
  have el : (chcells (chmarks k i)).length = i * 3 := by rw [chcells_length, chmarks_length]
  unfold chmixed
  rw [chmarks_succ, drop_at rs i (ByteArray.empty, ByteArray.empty, false) h, chcells_append, chcells_append, chcells_append, List.set_append_right _ _ (by omega), List.set_append_right _ _ (by omega), List.set_append_right _ _ (by omega), el]
  simp [chcells, chm]

set_option maxHeartbeats 1600000 in
theorem mark_chs (a : Option Addr) (rs : List (ByteArray × ByteArray × Bool)) (c k : Nat) (w : World) (h : OwnS w a (chcells rs)) (hk : 0 < k) (hl : k + 3 * rs.length ≤ 100000000) :
    Calls Tryz.prog 19 #[.slice a rs.length c, .int .i64 (k : Int)] w fun e w' => e = .returned (.int .i64 ((k + 3 * rs.length : Nat) : Int)) ∧ w.grownBy w' (blk a rs.length) ∧ OwnS w' a (chcells (chmarks k rs.length)) := by
  by_cases hss : rs = []
  · skip
    subst hss
    go_enter Tryz.func19, Tryz.ntmps19
    go_wp2
    refine wp_loop_rounds 1 ?_
    rw [rounds_succ]
    go_wp2
    go_ret
    exact ⟨rfl, grown_refl _ _, .inl rfl⟩
  · obtain ⟨g, rfl, hrow⟩ := h.resolve_left (fun e => hss (by have := congrArg List.length e; rw [chcells_length, List.length_nil] at this; exact List.eq_nil_of_length_eq_zero (by omega)))
    rw [blk_pos g 0 rs.length (fun e => hss (List.eq_nil_of_length_eq_zero e))]
    have hr0 : Row w g (chmixed k 0 rs) := by simpa [chmixed, chmarks] using hrow
    clear hrow hss
    go_enter Tryz.func19, Tryz.ntmps19
    go_wp2
    go_loopw [1, 5] (fun x i wr => ∃ j m : Nat, j ≤ rs.length ∧ i = .int .i64 (j : Int) ∧ x = .int .i64 (m : Int) ∧ Hid (m = k + 3 * j) ∧ Row wr g (chmixed k j rs) ∧ w.grownBy wr (some g)) (fun _ i _ => rs.length - (intOf i).toNat)
    case atStart => exact ⟨0, k, Nat.zero_le _, rfl, rfl, hid rfl, hr0, grown_refl _ _⟩
    case round =>
      clear hr0
      obtain ⟨j, m, hj, rfl, rfl, HM, hrow, hgr⟩ := hrel
      have HR := hid hrow
      have HG := hid hgr
      clear hgr hrow
      by_cases hlt : j < rs.length
      · have HL := hid (chmixed_length k j rs hj)
        have hmj : (m : Int) ≤ 99999997 := by have := HM.out; omega
        have hmj0 : (0 : Int) < (m : Int) := by have := HM.out; omega
        go_wp2_with (first | (have _g := HR2; go_at_call 54; refine (mark_text' ((m : Int) + 1) (m + 1) (by omega) _ (by omega) (by omega)).mono ?_; rintro e w3 ⟨rfl, hb3⟩; have HR3 := hid ((HR2.out.set (j * 3) (by rw [HL.out]; omega) (.string (mtext m))).below hb3); have hu3 := getx HR3.out (j * 3 + 1) (by rw [List.length_set, HL.out]; omega); have hu4 := getx HR3.out (j * 3 + 2) (by rw [List.length_set, HL.out]; omega); obtain ⟨⟨u3, hu3⟩, hf3⟩ := hu3; obtain ⟨⟨u4, hu4⟩, hf4⟩ := hu4; have HG3 := hid (grown_trans (grown_set HG2.out _ _) (grown_of_below _ hb3)); clear hb3) | (go_at_call 54; refine (mark_text m _ (by omega) (by omega)).mono ?_; rintro e w2 ⟨rfl, hb2⟩; have HR2 := hid (HR.out.below hb2); have hu2 := getx HR2.out (j * 3) (by rw [HL.out]; omega); obtain ⟨⟨u2, hu2⟩, hf2⟩ := hu2; have HG2 := hid (grown_trans HG.out (grown_of_below _ hb2)); clear hb2))
        have hgn : (((m : Int) + 1 + 1) % 3 == 0) = decide ((m + 2) % 3 = 0) := by rw [Bool.eq_iff_iff]; simp; omega
        have hset : (((chmixed k j rs).set (j * 3) (.string (mtext m))).set (j * 3 + 1) (.string (mtext (m + 1)))).set (j * 3 + 2) (.bool (decide ((m + 2) % 3 = 0))) = chmixed k (j + 1) rs := by
          rw [HM.out]; exact chmixed_set k j rs hlt
        rw [hgn]
        refine ⟨⟨j + 1, m + 3, by omega, by go_num, by go_num, by show _ = _; have := HM.out; omega, ?_, grown_set (grown_set HG3.out _ _) _ _⟩, by simp [intOf]; omega⟩
        rw [← hset]
        exact (HR3.out.set (j * 3 + 1) (by rw [List.length_set, HL.out]; omega) _).set (j * 3 + 2) (by rw [List.length_set, List.length_set, HL.out]; omega) _
      · have hjl : Hid (j = rs.length) := by show _ = _; omega
        go_wp2
        go_ret
        refine ⟨ret_int (by rw [HM.out, hjl.out]), HG.out, .inr ⟨g, rfl, ?_⟩⟩
        have := HR.out
        rw [hjl.out] at this
        simpa [chmixed] using this

end Go.Proofs.YtnmaknnnmjfhkafGreat
