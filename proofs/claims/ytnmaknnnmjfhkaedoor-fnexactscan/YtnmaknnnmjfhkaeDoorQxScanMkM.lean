import Derived.Test.YtnmaknnnmjfhkaeDoorQxScanSz
import Derived.Test.YtnmaknnnmjfhkaeDoorMgXScan47
namespace Go.Proofs.YtnmaknnnmjfhkaeDoor
open Go.RowKit
set_option maxRecDepth 4000
set_option linter.unusedVariables false

def wmarks (k n : Nat) : List (Int × ByteArray) := (List.range n).map fun i => (((k + 2 * i : Nat) : Int), mtext (k + 2 * i + 1))
theorem wmarks_length (k n : Nat) : (wmarks k n).length = n := by simp [wmarks]
theorem wmarks_succ (k n : Nat) : wmarks k (n + 1) = wmarks k n ++ [(((k + 2 * n : Nat) : Int), mtext (k + 2 * n + 1))] := by simp [wmarks, List.range_succ]
def wmixed (k i : Nat) (ws : List (Int × ByteArray)) : List Value := wcells (wmarks k i ++ ws.drop i)
theorem wmixed_length (k i : Nat) (ws : List (Int × ByteArray)) (h : i ≤ ws.length) : (wmixed k i ws).length = ws.length * 2 := by simp [wmixed, wcells_length, wmarks_length]; omega
theorem wmixed_set (k i : Nat) (ws : List (Int × ByteArray)) (h : i < ws.length) : ((wmixed k i ws).set (i * 2) (.int .i64 ((k + 2 * i : Nat) : Int))).set (i * 2 + 1) (.string (mtext (k + 2 * i + 1))) = wmixed k (i + 1) ws := by
  have el : (wcells (wmarks k i)).length = i * 2 := by rw [wcells_length, wmarks_length]
  unfold wmixed
  rw [wmarks_succ, drop_at ws i (0, ByteArray.empty) h, wcells_append, wcells_append, wcells_append, List.set_append_right _ _ (by omega), List.set_append_right _ _ (by omega), el]
  simp [wcells]

set_option maxHeartbeats 800000 in
theorem mark_wrs (a : Option Addr) (ws : List (Int × ByteArray)) (c k : Nat) (w : World) (h : OwnS w a (wcells ws)) (hk : 0 < k) (hl : k + 2 * ws.length ≤ 100000000) :
    Calls Tryd.prog 66 #[.slice a ws.length c, .int .i64 (k : Int)] w fun e w' => e = .returned (.int .i64 ((k + 2 * ws.length : Nat) : Int)) ∧ w.grownBy w' (blk a ws.length) ∧ OwnS w' a (wcells (wmarks k ws.length)) := by
  by_cases hss : ws = []
  · skip
    subst hss
    go_enter Tryd.func66, Tryd.ntmps66
    go_wp2
    refine wp_loop_rounds 1 ?_
    rw [rounds_succ]
    go_wp2
    go_ret
    exact ⟨rfl, grown_refl _ _, .inl rfl⟩
  · obtain ⟨g, rfl, hrow⟩ := h.resolve_left (fun e => hss (by have := congrArg List.length e; rw [wcells_length, List.length_nil] at this; exact List.eq_nil_of_length_eq_zero (by omega)))
    rw [blk_pos g 0 ws.length (fun e => hss (List.eq_nil_of_length_eq_zero e))]
    have hr0 : Row w g (wmixed k 0 ws) := by simpa [wmixed, wmarks] using hrow
    clear hrow hss
    go_enter Tryd.func66, Tryd.ntmps66
    go_wp2
    go_loopw [1, 5] (fun x i wr => ∃ j m : Nat, j ≤ ws.length ∧ i = .int .i64 (j : Int) ∧ x = .int .i64 (m : Int) ∧ Hid (m = k + 2 * j) ∧ Row wr g (wmixed k j ws) ∧ w.grownBy wr (some g)) (fun _ i _ => ws.length - (intOf i).toNat)
    case atStart => exact ⟨0, k, Nat.zero_le _, rfl, rfl, hid rfl, hr0, grown_refl _ _⟩
    case round =>
      clear hr0
      obtain ⟨j, m, hj, rfl, rfl, HM, hrow, hgr⟩ := hrel
      have HR := hid hrow
      have HG := hid hgr
      clear hgr
      by_cases hlt : j < ws.length
      · have hL := wmixed_length k j ws hj
        obtain ⟨u, hu⟩ : ∃ u, wr.cell? ⟨g, j * 2, none⟩ = some u := ⟨_, hrow.cell (j * 2) _ (List.getElem?_eq_getElem (by omega))⟩
        have hf := hrow.froz (j * 2) (by omega)
        have HL := hid hL
        have hmj : (m : Int) ≤ 99999999 := by have := HM.out; omega
        have hmj0 : (0 : Int) < (m : Int) := by have := HM.out; omega
        have HR1 := hid (hrow.set (j * 2) (by omega) (.int .i64 (m : Int)))
        clear hL hrow
        go_wp2_with (go_at_call 89; refine (mark_text' ((m : Int) + 1) (m + 1) (by omega) _ (by omega) (by omega)).mono ?_; rintro e w2 ⟨rfl, hb2⟩; have hr2 := HR1.out.below hb2; obtain ⟨u2, hu2⟩ : ∃ u, w2.cell? ⟨g, j * 2 + 1, none⟩ = some u := ⟨_, hr2.cell (j * 2 + 1) _ (List.getElem?_eq_getElem (by rw [List.length_set, HL.out]; omega))⟩; have hf2 := hr2.froz (j * 2 + 1) (by rw [List.length_set, HL.out]; omega); have HR2 := hid hr2; have HB2 := hid hb2; clear hr2 hb2)
        have hset : ((wmixed k j ws).set (j * 2) (.int .i64 (m : Int))).set (j * 2 + 1) (.string (mtext (m + 1))) = wmixed k (j + 1) ws := by
          rw [HM.out]; exact wmixed_set k j ws hlt
        go_roundw
        case rel => exact ⟨j + 1, m + 2, by omega, by go_num, by go_num, by show _ = _; have := HM.out; omega, by rw [← hset]; exact HR2.out.set (j * 2 + 1) (by rw [List.length_set, HL.out]; omega) _, grown_set (grown_trans (grown_set HG.out _ _) (grown_of_below _ HB2.out)) _ _⟩
        case measure => simp [intOf]; omega
      · have hjl : Hid (j = ws.length) := by show _ = _; omega
        clear hrow
        go_wp2
        go_ret
        refine ⟨ret_int (by rw [HM.out, hjl.out]), HG.out, .inr ⟨g, rfl, ?_⟩⟩
        have := HR.out
        rw [hjl.out] at this
        simpa [wmixed] using this

set_option maxHeartbeats 800000 in
theorem mark_disk (a : Option Addr) (ss : List ByteArray) (c : Nat) (a' : Option Addr) (ws : List (Int × ByteArray)) (c' k : Nat) (w : World) (h : OwnD w a ss a' ws) (hk : 0 < k) (hl : k + ss.length + 2 * ws.length ≤ 100000000) :
    Calls Tryd.prog 24 #[diskV a ss.length c a' ws.length c', .int .i64 (k : Int)] w fun e w' => e = .returned (.int .i64 ((k + ss.length + 2 * ws.length : Nat) : Int)) ∧ (∃ w1 w2, Below w.heap.size w w1 ∧ w1.grownBy w2 (blk a ss.length) ∧ w2.grownBy w' (blk a' ws.length)) ∧ OwnD w' a (marks k ss.length) a' (wmarks (k + ss.length) ws.length) := by
  have hb0 : ∀ o, Below w.heap.size w (w.alloc o) := fun o => (Below.refl _ _).alloc (Nat.le_refl _) _
  have l1 := h.s.lt ss.length strs_ne
  have l2 := h.p.lt ws.length wcells_ne
  go_enter Tryd.func24, Tryd.ntmps24
  go_wp2_with fail
  refine (mark_strs a ss c k _ (h.s.below (hb0 _)) hk (by omega)).mono ?_
  rintro e w1 ⟨rfl, hg1, ho1⟩
  have q1 : w1.cell? ⟨w.heap.size, 1, none⟩ = some (.slice a' ws.length c') := (World.cell?_of_block (a := ⟨w.heap.size, 1, none⟩) (hg1.block w.heap.size (by simp) (fun e => by have := l1 _ e.symm; omega))).trans (by go_simp)
  have hp1 : OwnS w1 a' (wcells ws) := (h.p.below (hb0 _)).grown hg1 (fun g hg hne => by
    rcases h.ne with h0 | h0 | h0
    · rw [h0]; simp
    · subst hg; rw [blk_pos g 0 _ (ne_of_wcells hne)] at h0; cases h0
    · subst hg; rw [blk_pos g 0 _ (ne_of_wcells hne)] at h0; exact fun e => h0 e.symm)
  have HG1 := hid hg1
  have HO1 := hid ho1
  obtain ⟨m, HM⟩ : ∃ m, Hid (m = k + ss.length) := ⟨_, hid rfl⟩
  rw [← HM.out]
  clear hg1 ho1
  go_wp2_with fail
  refine (mark_wrs a' ws c' m _ hp1 (by have := HM.out; omega) (by have := HM.out; omega)).mono ?_
  rintro e w2 ⟨rfl, hg2, ho2⟩
  clear q1 hp1
  have HG2 := hid hg2
  have HO2 := hid ho2
  clear hg2 ho2 l1 l2
  go_wp2
  go_ret
  refine ⟨ret_int (by have := HM.out; omega), ⟨_, w1, hb0 _, HG1.out, HG2.out⟩, ?_, ?_, ?_⟩
  · refine HO1.out.grown HG2.out (fun g hg hne => ?_)
    have hn1 : ss.length ≠ 0 := by have := ne_of_strs hne; rwa [marks_length] at this
    subst hg
    rcases h.ne with h0 | h0 | h0
    · rw [blk_pos g 0 _ hn1] at h0; cases h0
    · rw [h0]; simp
    · rwa [blk_pos g 0 _ hn1] at h0
  · rw [← HM.out]; exact HO2.out
  · rw [marks_length, wmarks_length]; exact h.ne

end Go.Proofs.YtnmaknnnmjfhkaeDoor
