import Derived.Test.YtnmaknnnmjfhkadSz
import Derived.Test.YtnmaknnnmjfhkadMkS
namespace Go.Proofs.Ytnmaknnnmjfhkad
open Go.RowKit
set_option maxRecDepth 4000
set_option linter.unusedVariables false

def wmarks (k n : Nat) : List (Int × ByteArray) := (List.range n).map fun i => (((k + 2 * i : Nat) : Int), mtext (k + 2 * i + 1))
theorem wmarks_length (k n : Nat) : (wmarks k n).length = n := by simp [wmarks]
theorem wmarks_succ (k n : Nat) : wmarks k (n + 1) = wmarks k n ++ [(((k + 2 * n : Nat) : Int), mtext (k + 2 * n + 1))] := by simp [wmarks, List.range_succ]
def wmixed (k i : Nat) (ws : List (Int × ByteArray)) : List Value := wcells (wmarks k i ++ ws.drop i)
theorem wmixed_length (k i : Nat) (ws : List (Int × ByteArray)) (h : i ≤ ws.length) : (wmixed k i ws).length = ws.length * 2 := by simp [wmixed, wcells_length, wmarks_length]; omega
theorem wmixed_set (k i : Nat) (ws : List (Int × ByteArray)) (h : i < ws.length) : ((wmixed k i ws).set (i * 2) (.int .i64 ((k + 2 * i : Nat) : Int))).set (i * 2 + 1) (.string (mtext (k + 2 * i + 1))) = wmixed k (i + 1) ws := by
  have el : (wcells (wmarks k i)).length = i * 2 := by rw [wcells_length, wmarks_length]
  unfold wmixed
  rw [wmarks_succ, drop_at ws i (0, ByteArray.empty) h, wcells_append, wcells_append, wcells_append, List.set_append_right _ _ (by omega), List.set_append_right _ _ (by omega), el]
  simp [wcells]

set_option maxHeartbeats 800000 in
theorem mark_wrs (a : Option Addr) (ws : List (Int × ByteArray)) (c k : Nat) (w : World) (h : OwnS w a (wcells ws)) (hk : 0 < k) (hl : k + 2 * ws.length ≤ 100000000) :
    Calls Try.prog 90 #[.slice a ws.length c, .int .i64 (k : Int)] w fun e w' => e = .returned (.int .i64 ((k + 2 * ws.length : Nat) : Int)) ∧ w.grownBy w' (blk a ws.length) ∧ OwnS w' a (wcells (wmarks k ws.length)) := by
  by_cases hss : ws = []
  · skip
    subst hss
    go_enter Try.func90, Try.ntmps90
    go_wp2
    refine wp_loop_rounds 1 ?_
    rw [rounds_succ]
    go_wp2
    go_ret
    exact ⟨rfl, grown_refl _ _, .inl rfl⟩
  · obtain ⟨g, rfl, hrow⟩ := h.resolve_left (fun e => hss (by have := congrArg List.length e; rw [wcells_length, List.length_nil] at this; exact List.eq_nil_of_length_eq_zero (by omega)))
    rw [blk_pos g 0 ws.length (fun e => hss (List.eq_nil_of_length_eq_zero e))]
    have hr0 : Row w g (wmixed k 0 ws) := by simpa [wmixed, wmarks] using hrow
    clear hrow hss
    go_enter Try.func90, Try.ntmps90
    go_wp2
    go_loopw [1, 5] (fun x i wr => ∃ j m : Nat, j ≤ ws.length ∧ i = .int .i64 (j : Int) ∧ x = .int .i64 (m : Int) ∧ Hid (m = k + 2 * j) ∧ Row wr g (wmixed k j ws) ∧ w.grownBy wr (some g)) (fun _ i _ => ws.length - (intOf i).toNat)
    case atStart => exact ⟨0, k, Nat.zero_le _, rfl, rfl, hid rfl, hr0, grown_refl _ _⟩
    case round =>
      clear hr0
      obtain ⟨j, m, hj, rfl, rfl, HM, hrow, hgr⟩ := hrel
      have HR := hid hrow
      have HG := hid hgr
      clear hgr
      by_cases hlt : j < ws.length
      · have hL := wmixed_length k j ws hj
        obtain ⟨u, hu⟩ : ∃ u, wr.cell? ⟨g, j * 2, none⟩ = some u := ⟨_, hrow.cell (j * 2) _ (List.getElem?_eq_getElem (by omega))⟩
        have hf := hrow.froz (j * 2) (by omega)
        have HL := hid hL
        have hmj : (m : Int) ≤ 99999999 := by have := HM.out; omega
        have hmj0 : (0 : Int) < (m : Int) := by have := HM.out; omega
        have HR1 := hid (hrow.set (j * 2) (by omega) (.int .i64 (m : Int)))
        clear hL hrow
        go_wp2_with (go_at_call 97; refine (mark_text' ((m : Int) + 1) (m + 1) (by omega) _ (by omega) (by omega)).mono ?_; rintro e w2 ⟨rfl, hb2⟩; have hr2 := HR1.out.below hb2; obtain ⟨u2, hu2⟩ : ∃ u, w2.cell? ⟨g, j * 2 + 1, none⟩ = some u := ⟨_, hr2.cell (j * 2 + 1) _ (List.getElem?_eq_getElem (by rw [List.length_set, HL.out]; omega))⟩; have hf2 := hr2.froz (j * 2 + 1) (by rw [List.length_set, HL.out]; omega); have HR2 := hid hr2; have HB2 := hid hb2; clear hr2 hb2)
        have hset : ((wmixed k j ws).set (j * 2) (.int .i64 (m : Int))).set (j * 2 + 1) (.string (mtext (m + 1))) = wmixed k (j + 1) ws := by
          rw [HM.out]; exact wmixed_set k j ws hlt
        go_roundw
        case rel => exact ⟨j + 1, m + 2, by omega, by go_num, by go_num, by show _ = _; have := HM.out; omega, by rw [← hset]; exact HR2.out.set (j * 2 + 1) (by rw [List.length_set, HL.out]; omega) _, grown_set (grown_trans (grown_set HG.out _ _) (grown_of_below _ HB2.out)) _ _⟩
        case measure => simp [intOf]; omega
      · have hjl : Hid (j = ws.length) := by show _ = _; omega
        clear hrow
        go_wp2
        go_ret
        refine ⟨ret_int (by rw [HM.out, hjl.out]), HG.out, .inr ⟨g, rfl, ?_⟩⟩
        have := HR.out
        rw [hjl.out] at this
        simpa [wmixed] using this

set_option maxHeartbeats 800000 in
theorem held_wrs (a : Option Addr) (n c k : Nat) (w : World) (h : OwnS w a (wcells (wmarks k n))) (hk : 0 < k) (hl : k + 2 * n ≤ 100000000) :
    Calls Try.prog 92 #[.slice a n c, .int .i64 (k : Int)] w fun e w' => e = .returned (.int .i64 ((k + 2 * n : Nat) : Int)) ∧ Below w.heap.size w w' := by
  rcases h with h | ⟨g, rfl, hrow⟩
  · have hn : n = 0 := by have := congrArg List.length h; rw [wcells_length, wmarks_length, List.length_nil] at this; omega
    subst hn
    go_enter Try.func92, Try.ntmps92
    go_wp2
    refine wp_loop_rounds 1 ?_
    rw [rounds_succ]
    go_wp2
    go_ret
    exact ⟨rfl, Below.refl _ _⟩
  · have HROW := hid hrow
    clear hrow
    go_enter Try.func92, Try.ntmps92
    go_wp2
    go_loopw [1, 5] (fun x i wr => ∃ j m : Nat, j ≤ n ∧ i = .int .i64 (j : Int) ∧ x = .int .i64 (m : Int) ∧ Hid (m = k + 2 * j) ∧ Below w.heap.size w wr) (fun _ i _ => n - (intOf i).toNat)
    case atStart => exact ⟨0, k, Nat.zero_le _, rfl, rfl, hid rfl, Below.refl _ _⟩
    case round =>
      obtain ⟨j, m, hj, rfl, rfl, HM, hbel⟩ := hrel
      have HR := hid (HROW.out.below hbel)
      have HB := hid hbel
      clear hbel
      by_cases hlt : j < n
      · have hmj : (m : Int) ≤ 99999999 := by have := HM.out; omega
        have hmj0 : (0 : Int) < (m : Int) := by have := HM.out; omega
        have hj0 : (0 : Int) ≤ (j : Int) := by omega
        have hj1 : (j : Int) < (n : Int) := by omega
        have hat := wcells_at (wmarks k n) j (by rw [wmarks_length]; exact hlt)
        have hgd : (wmarks k n).getD j (0, ByteArray.empty) = ((m : Int), mtext (m + 1)) := by rw [HM.out]; simp [wmarks, List.getD, hlt]
        rw [hgd] at hat
        have hc0 : wr.cell? ⟨g, j * 2, none⟩ = some (.int .i64 (m : Int)) := HR.out.cell _ _ hat.1
        have HC : Hid (wr.cell? ⟨g, j * 2 + 1, none⟩ = some (.string (mtext (m + 1)))) := HR.out.cell _ _ hat.2
        have lt1 : g < wr.heap.size := HR.out.lt
        clear hat hgd
        go_wp2_with fail
        clear hc0
        go_region_held3 (fun w' => w'.cell? ⟨g, j * 2 + 1, none⟩ = some (.string (mtext (m + 1))))
          (first | assumption | exact HC.out | exact (hb2.cell (p := ⟨g, j * 2 + 1, none⟩) lt1).trans HC.out)
          (first | (go_at_call 97; refine (mark_text' ((m : Int) + 1) (m + 1) (by omega) _ (by omega) (by omega)).mono ?_; rintro e w2 ⟨rfl, hb2⟩))
        go_wp2
        go_roundw
        case rel => exact ⟨j + 1, m + 2, by omega, by go_num, by go_num, by show _ = _; have := HM.out; omega, HB.out.drew.trans (hb2.mono HB.out.size)⟩
        case measure => simp [intOf]; omega
      · have hjl : Hid (j = n) := by show _ = _; omega
        go_wp2
        go_ret
        exact ⟨ret_int (by rw [HM.out, hjl.out]), HB.out⟩

set_option maxHeartbeats 800000 in
theorem mark_disk (a : Option Addr) (ss : List ByteArray) (c : Nat) (a' : Option Addr) (ws : List (Int × ByteArray)) (c' k : Nat) (w : World) (h : OwnD w a ss a' ws) (hk : 0 < k) (hl : k + ss.length + 2 * ws.length ≤ 100000000) :
    Calls Try.prog 30 #[diskV a ss.length c a' ws.length c', .int .i64 (k : Int)] w fun e w' => e = .returned (.int .i64 ((k + ss.length + 2 * ws.length : Nat) : Int)) ∧ (∃ w1 w2, Below w.heap.size w w1 ∧ w1.grownBy w2 (blk a ss.length) ∧ w2.grownBy w' (blk a' ws.length)) ∧ OwnD w' a (marks k ss.length) a' (wmarks (k + ss.length) ws.length) := by
  have hb0 : ∀ o, Below w.heap.size w (w.alloc o) := fun o => (Below.refl _ _).alloc (Nat.le_refl _) _
  have l1 := h.s.lt ss.length strs_ne
  have l2 := h.p.lt ws.length wcells_ne
  go_enter Try.func30, Try.ntmps30
  go_wp2_with fail
  refine (mark_strs a ss c k _ (h.s.below (hb0 _)) hk (by omega)).mono ?_
  rintro e w1 ⟨rfl, hg1, ho1⟩
  have q1 : w1.cell? ⟨w.heap.size, 1, none⟩ = some (.slice a' ws.length c') := (World.cell?_of_block (a := ⟨w.heap.size, 1, none⟩) (hg1.block w.heap.size (by simp) (fun e => by have := l1 _ e.symm; omega))).trans (by go_simp)
  have hp1 : OwnS w1 a' (wcells ws) := (h.p.below (hb0 _)).grown hg1 (fun g hg hne => by
    rcases h.ne with h0 | h0 | h0
    · rw [h0]; simp
    · subst hg; rw [blk_pos g 0 _ (ne_of_wcells hne)] at h0; cases h0
    · subst hg; rw [blk_pos g 0 _ (ne_of_wcells hne)] at h0; exact fun e => h0 e.symm)
  have HG1 := hid hg1
  have HO1 := hid ho1
  obtain ⟨m, HM⟩ : ∃ m, Hid (m = k + ss.length) := ⟨_, hid rfl⟩
  rw [← HM.out]
  clear hg1 ho1
  go_wp2_with fail
  refine (mark_wrs a' ws c' m _ hp1 (by have := HM.out; omega) (by have := HM.out; omega)).mono ?_
  rintro e w2 ⟨rfl, hg2, ho2⟩
  clear q1 hp1
  have HG2 := hid hg2
  have HO2 := hid ho2
  clear hg2 ho2 l1 l2
  go_wp2
  go_ret
  refine ⟨ret_int (by have := HM.out; omega), ⟨_, w1, hb0 _, HG1.out, HG2.out⟩, ?_, ?_, ?_⟩
  · refine HO1.out.grown HG2.out (fun g hg hne => ?_)
    have hn1 : ss.length ≠ 0 := by have := ne_of_strs hne; rwa [marks_length] at this
    subst hg
    rcases h.ne with h0 | h0 | h0
    · rw [blk_pos g 0 _ hn1] at h0; cases h0
    · rw [h0]; simp
    · rwa [blk_pos g 0 _ hn1] at h0
  · rw [← HM.out]; exact HO2.out
  · rw [marks_length, wmarks_length]; exact h.ne

set_option maxHeartbeats 800000 in
theorem held_disk (a : Option Addr) (n c : Nat) (a' : Option Addr) (n' c' k : Nat) (w : World) (h : OwnS w a ((marks k n).map Value.string)) (h' : OwnS w a' (wcells (wmarks (k + n) n'))) (hk : 0 < k) (hl : k + n + 2 * n' ≤ 100000000) :
    Calls Try.prog 32 #[diskV a n c a' n' c', .int .i64 (k : Int)] w fun e w' => e = .returned (.int .i64 ((k + n + 2 * n' : Nat) : Int)) ∧ Below w.heap.size w w' := by
  have hb0 : ∀ o, Below w.heap.size w (w.alloc o) := fun o => (Below.refl _ _).alloc (Nat.le_refl _) _
  go_enter Try.func32, Try.ntmps32
  go_wp2_with fail
  refine (held_strs a n c k _ (h.below (hb0 _)) hk (by omega)).mono ?_
  rintro e w1 ⟨rfl, hb1⟩
  have q1 : w1.cell? ⟨w.heap.size, 1, none⟩ = some (.slice a' n' c') := (hb1.cell (p := ⟨w.heap.size, 1, none⟩) (by simp)).trans (by go_simp)
  have hB1 := (hb0 _).trans (hb1.mono (by simp))
  have HB1 := hid hB1
  obtain ⟨m, HM⟩ : ∃ m, Hid (m = k + n) := ⟨_, hid rfl⟩
  rw [← HM.out]
  rw [← HM.out] at h'
  clear hb1 hB1
  have hm0 : (0 : Int) ≤ (m : Int) := by omega
  go_wp2_with fail
  refine (held_wrs a' n' c' m _ (h'.below HB1.out) (by have := HM.out; omega) (by have := HM.out; omega)).mono ?_
  rintro e w2 ⟨rfl, hb2⟩
  clear q1
  have hm2 : (0 : Int) ≤ ((m + 2 * n' : Nat) : Int) := by omega
  go_wp2
  go_ret
  exact ⟨ret_int (by have := HM.out; omega), HB1.out.trans (hb2.mono HB1.out.size)⟩
end Go.Proofs.Ytnmaknnnmjfhkad
