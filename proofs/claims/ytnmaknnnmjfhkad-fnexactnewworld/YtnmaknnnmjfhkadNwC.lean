import Derived.Test.YtnmaknnnmjfhkadNwB
namespace Go.Proofs.Ytnmaknnnmjfhkad.nw
open Go.RowKit
set_option maxRecDepth 8000
set_option linter.unusedVariables false
set_option linter.unusedSimpArgs false

set_option maxHeartbeats 8000000 in
theorem nw_s_yes (n wd : Int) (w : World) (hn : 8 ≤ n ∧ n ≤ 200) (h1 : 1 ≤ wd ∧ wd ≤ 8) :
    Calls Try.prog 45 #[.int .i64 n, .int .i64 wd] w fun e w' => NwPost w w' e wd (newSS n) 1 := by
  have hwd : decide (1 ≤ wd ∧ wd ≤ 8) = true := decide_eq_true h1
  have hd : decide (8 ≤ n ∧ n ≤ 200) = true := decide_eq_true hn
  obtain ⟨m, hss⟩ : ∃ m : Nat, (newSS n).length = m := ⟨_, rfl⟩
  have hm : m ≠ 0 := by rw [← hss]; unfold newSS; rw [if_pos hn]; simp; omega
  have hm' : ¬ (m : Int) = 0 := by omega
  have HSS := hid hss
  go_enter Try.func45, Try.ntmps45
  go_wp2_with (first | (go_at_call 105; refine (new_s_any n _).mono ?_; rintro e w1 ⟨a, c, a', c', rfl, ho1, hg1, hb1⟩; rw [hss] at hg1 ⊢; have HO1 := hid ho1; have HG1 := hid hg1; have HB1 := hid (((Below.refl w.heap.size w).alloc (Nat.le_refl _) _).trans (hb1.mono (by simp))); have hl1 : w.heap.size < w1.heap.size := Nat.lt_of_lt_of_le (by simp) hb1.size; have w1r0 : w1.cell? ⟨w.heap.size, 0, none⟩ = some (.int .i64 0) := (hb1.cell (p := ⟨w.heap.size, 0, none⟩) (by simp <;> omega)).trans (by go_simp); have w1rf0 : w1.frozen? ⟨w.heap.size, 0, none⟩ = false := (hb1.frozen (p := ⟨w.heap.size, 0, none⟩) (by simp <;> omega)).trans (by go_simp); have w1r1 : w1.cell? ⟨w.heap.size, 1, none⟩ = some (.slice none 0 0) := (hb1.cell (p := ⟨w.heap.size, 1, none⟩) (by simp <;> omega)).trans (by go_simp); have w1rf1 : w1.frozen? ⟨w.heap.size, 1, none⟩ = false := (hb1.frozen (p := ⟨w.heap.size, 1, none⟩) (by simp <;> omega)).trans (by go_simp); have w1r2 : w1.cell? ⟨w.heap.size, 2, none⟩ = some (.slice none 0 0) := (hb1.cell (p := ⟨w.heap.size, 2, none⟩) (by simp <;> omega)).trans (by go_simp); have w1rf2 : w1.frozen? ⟨w.heap.size, 2, none⟩ = false := (hb1.frozen (p := ⟨w.heap.size, 2, none⟩) (by simp <;> omega)).trans (by go_simp); have w1r3 : w1.cell? ⟨w.heap.size, 3, none⟩ = some (.bool false) := (hb1.cell (p := ⟨w.heap.size, 3, none⟩) (by simp <;> omega)).trans (by go_simp); have w1rf3 : w1.frozen? ⟨w.heap.size, 3, none⟩ = false := (hb1.frozen (p := ⟨w.heap.size, 3, none⟩) (by simp <;> omega)).trans (by go_simp); have w1r4 : w1.cell? ⟨w.heap.size, 4, none⟩ = some (.int .i64 0) := (hb1.cell (p := ⟨w.heap.size, 4, none⟩) (by simp <;> omega)).trans (by go_simp); have w1rf4 : w1.frozen? ⟨w.heap.size, 4, none⟩ = false := (hb1.frozen (p := ⟨w.heap.size, 4, none⟩) (by simp <;> omega)).trans (by go_simp); have w1r5 : w1.cell? ⟨w.heap.size, 5, none⟩ = some (.int .i64 0) := (hb1.cell (p := ⟨w.heap.size, 5, none⟩) (by simp <;> omega)).trans (by go_simp); have w1rf5 : w1.frozen? ⟨w.heap.size, 5, none⟩ = false := (hb1.frozen (p := ⟨w.heap.size, 5, none⟩) (by simp <;> omega)).trans (by go_simp); have w1r6 : w1.cell? ⟨w.heap.size, 6, none⟩ = some (.int .i64 0) := (hb1.cell (p := ⟨w.heap.size, 6, none⟩) (by simp <;> omega)).trans (by go_simp); have w1rf6 : w1.frozen? ⟨w.heap.size, 6, none⟩ = false := (hb1.frozen (p := ⟨w.heap.size, 6, none⟩) (by simp <;> omega)).trans (by go_simp); have w1r7 : w1.cell? ⟨w.heap.size, 7, none⟩ = some (.int .i64 0) := (hb1.cell (p := ⟨w.heap.size, 7, none⟩) (by simp <;> omega)).trans (by go_simp); have w1rf7 : w1.frozen? ⟨w.heap.size, 7, none⟩ = false := (hb1.frozen (p := ⟨w.heap.size, 7, none⟩) (by simp <;> omega)).trans (by go_simp); have w1r8 : w1.cell? ⟨w.heap.size, 8, none⟩ = some (.int .i64 0) := (hb1.cell (p := ⟨w.heap.size, 8, none⟩) (by simp <;> omega)).trans (by go_simp); have w1rf8 : w1.frozen? ⟨w.heap.size, 8, none⟩ = false := (hb1.frozen (p := ⟨w.heap.size, 8, none⟩) (by simp <;> omega)).trans (by go_simp); have w1r9 : w1.cell? ⟨w.heap.size, 9, none⟩ = some (.int .i64 0) := (hb1.cell (p := ⟨w.heap.size, 9, none⟩) (by simp <;> omega)).trans (by go_simp); have w1rf9 : w1.frozen? ⟨w.heap.size, 9, none⟩ = false := (hb1.frozen (p := ⟨w.heap.size, 9, none⟩) (by simp <;> omega)).trans (by go_simp); have w1r10 : w1.cell? ⟨w.heap.size, 10, none⟩ = some (.int .i64 0) := (hb1.cell (p := ⟨w.heap.size, 10, none⟩) (by simp <;> omega)).trans (by go_simp); have w1rf10 : w1.frozen? ⟨w.heap.size, 10, none⟩ = false := (hb1.frozen (p := ⟨w.heap.size, 10, none⟩) (by simp <;> omega)).trans (by go_simp); have w1r11 : w1.cell? ⟨w.heap.size, 11, none⟩ = some (.int .i64 0) := (hb1.cell (p := ⟨w.heap.size, 11, none⟩) (by simp <;> omega)).trans (by go_simp); have w1rf11 : w1.frozen? ⟨w.heap.size, 11, none⟩ = false := (hb1.frozen (p := ⟨w.heap.size, 11, none⟩) (by simp <;> omega)).trans (by go_simp); have w1r12 : w1.cell? ⟨w.heap.size, 12, none⟩ = some (.int .i64 0) := (hb1.cell (p := ⟨w.heap.size, 12, none⟩) (by simp <;> omega)).trans (by go_simp); have w1rf12 : w1.frozen? ⟨w.heap.size, 12, none⟩ = false := (hb1.frozen (p := ⟨w.heap.size, 12, none⟩) (by simp <;> omega)).trans (by go_simp); have w1r13 : w1.cell? ⟨w.heap.size, 13, none⟩ = some (.slice none 0 0) := (hb1.cell (p := ⟨w.heap.size, 13, none⟩) (by simp <;> omega)).trans (by go_simp); have w1rf13 : w1.frozen? ⟨w.heap.size, 13, none⟩ = false := (hb1.frozen (p := ⟨w.heap.size, 13, none⟩) (by simp <;> omega)).trans (by go_simp); have w1r14 : w1.cell? ⟨w.heap.size, 14, none⟩ = some (.slice none 0 0) := (hb1.cell (p := ⟨w.heap.size, 14, none⟩) (by simp <;> omega)).trans (by go_simp); have w1rf14 : w1.frozen? ⟨w.heap.size, 14, none⟩ = false := (hb1.frozen (p := ⟨w.heap.size, 14, none⟩) (by simp <;> omega)).trans (by go_simp); have w1r15 : w1.cell? ⟨w.heap.size, 15, none⟩ = some (.slice none 0 0) := (hb1.cell (p := ⟨w.heap.size, 15, none⟩) (by simp <;> omega)).trans (by go_simp); have w1rf15 : w1.frozen? ⟨w.heap.size, 15, none⟩ = false := (hb1.frozen (p := ⟨w.heap.size, 15, none⟩) (by simp <;> omega)).trans (by go_simp); clear hb1 ho1 hg1) | (go_at_call 106; refine (width_s _ _).mono ?_; rw [hwd]; rintro e wz ⟨rfl, hwz⟩; rw [hwz]; clear hwz wz))
  have hol := HO1.out.lt m (fun h0 => strs_ne (by rw [HSS.out]; exact h0))
  have hgn : ∀ g, a = some ⟨g, 0, none⟩ → (newSS n).map Value.string ≠ [] → w.heap.size < g := fun g hg hne => by
    have := HG1.out g (by subst hg; exact blk_pos _ _ _ hm)
    simp at this; omega
  refine bodyPost_ret (v := worldV wd a m c a' c' (some ⟨w1.heap.size + 1, 0, none⟩) 1 1) (by simp [results, Try.results45, go_sem, worldV, hl1, w1r0, w1r1, w1r2, w1r3, w1r4, w1r5, w1r6, w1r7, w1r8, w1r9, w1r10, w1r11, w1r12, w1r13, w1r14, w1r15]) rfl ⟨a, c, a', c', _, 1, by rw [HSS.out], ?_, ?_, ?_, ?_, ?_⟩
  · refine OwnS.below ?_ ((Below.refl _ _).alloc (Nat.le_refl _) _); refine OwnS.below ?_ ((Below.refl _ _).alloc (Nat.le_refl _) _)
    iterate 16 (refine OwnS.setw ?_ _ (fun g hg hne => by have := hgn g hg hne; show w.heap.size ≠ g; omega) _)
    exact HO1.out
  · exact .inr ⟨w1.heap.size + 1, rfl, row_atw (by simp)⟩
  · intro g hg
    rw [HSS.out] at hg
    have e1 := HG1.out g hg
    have e2 := hol g hg
    simp at e1
    exact ⟨by omega, fun k hk => by rw [blk_pos _ _ _ (by omega)] at hk; cases hk; omega⟩
  · intro g hg
    rw [blk_pos _ _ _ (by omega)] at hg; cases hg; omega
  · refine Below.alloc ?_ (by simp; omega) _; refine Below.alloc ?_ (by simp; omega) _
    iterate 16 (refine Below.setCell ?_ (by show w.heap.size ≤ w.heap.size; omega) _)
    exact HB1.out

set_option maxHeartbeats 8000000 in
theorem nw_i_yes (n wd : Int) (w : World) (hn : 8 ≤ n ∧ n ≤ 200) (h1 : 1 ≤ wd ∧ wd ≤ 8) :
    Calls Try.prog 46 #[.int .i64 n, .int .i64 wd] w fun e w' => NwPost w w' e wd (newSS n) 1 := by
  have hwd : decide (1 ≤ wd ∧ wd ≤ 8) = true := decide_eq_true h1
  have hd : decide (8 ≤ n ∧ n ≤ 200) = true := decide_eq_true hn
  obtain ⟨m, hss⟩ : ∃ m : Nat, (newSS n).length = m := ⟨_, rfl⟩
  have hm : m ≠ 0 := by rw [← hss]; unfold newSS; rw [if_pos hn]; simp; omega
  have hm' : ¬ (m : Int) = 0 := by omega
  have HSS := hid hss
  go_enter Try.func46, Try.ntmps46
  go_wp2_with (first | (go_at_call 107; refine (dsize_i _ _).mono ?_; rw [hd]; rintro e wz ⟨rfl, hwz⟩; rw [hwz]; clear hwz wz) | (go_at_call 63; refine (width_i _ _).mono ?_; rw [hwd]; rintro e wz ⟨rfl, hwz⟩; rw [hwz]; clear hwz wz) | (go_at_call 108; refine (new_i_any n _).mono ?_; rintro e w1 ⟨a, c, a', c', rfl, ho1, hg1, hb1⟩; rw [hss] at hg1 ⊢; have HO1 := hid ho1; have HG1 := hid hg1; have HB1 := hid (((Below.refl w.heap.size w).alloc (Nat.le_refl _) _).trans (hb1.mono (by simp))); have hl1 : w.heap.size < w1.heap.size := Nat.lt_of_lt_of_le (by simp) hb1.size; have w1r0 : w1.cell? ⟨w.heap.size, 0, none⟩ = some (.int .i64 0) := (hb1.cell (p := ⟨w.heap.size, 0, none⟩) (by simp <;> omega)).trans (by go_simp); have w1rf0 : w1.frozen? ⟨w.heap.size, 0, none⟩ = false := (hb1.frozen (p := ⟨w.heap.size, 0, none⟩) (by simp <;> omega)).trans (by go_simp); have w1r1 : w1.cell? ⟨w.heap.size, 1, none⟩ = some (.slice none 0 0) := (hb1.cell (p := ⟨w.heap.size, 1, none⟩) (by simp <;> omega)).trans (by go_simp); have w1rf1 : w1.frozen? ⟨w.heap.size, 1, none⟩ = false := (hb1.frozen (p := ⟨w.heap.size, 1, none⟩) (by simp <;> omega)).trans (by go_simp); have w1r2 : w1.cell? ⟨w.heap.size, 2, none⟩ = some (.slice none 0 0) := (hb1.cell (p := ⟨w.heap.size, 2, none⟩) (by simp <;> omega)).trans (by go_simp); have w1rf2 : w1.frozen? ⟨w.heap.size, 2, none⟩ = false := (hb1.frozen (p := ⟨w.heap.size, 2, none⟩) (by simp <;> omega)).trans (by go_simp); have w1r3 : w1.cell? ⟨w.heap.size, 3, none⟩ = some (.bool false) := (hb1.cell (p := ⟨w.heap.size, 3, none⟩) (by simp <;> omega)).trans (by go_simp); have w1rf3 : w1.frozen? ⟨w.heap.size, 3, none⟩ = false := (hb1.frozen (p := ⟨w.heap.size, 3, none⟩) (by simp <;> omega)).trans (by go_simp); have w1r4 : w1.cell? ⟨w.heap.size, 4, none⟩ = some (.int .i64 0) := (hb1.cell (p := ⟨w.heap.size, 4, none⟩) (by simp <;> omega)).trans (by go_simp); have w1rf4 : w1.frozen? ⟨w.heap.size, 4, none⟩ = false := (hb1.frozen (p := ⟨w.heap.size, 4, none⟩) (by simp <;> omega)).trans (by go_simp); have w1r5 : w1.cell? ⟨w.heap.size, 5, none⟩ = some (.int .i64 0) := (hb1.cell (p := ⟨w.heap.size, 5, none⟩) (by simp <;> omega)).trans (by go_simp); have w1rf5 : w1.frozen? ⟨w.heap.size, 5, none⟩ = false := (hb1.frozen (p := ⟨w.heap.size, 5, none⟩) (by simp <;> omega)).trans (by go_simp); have w1r6 : w1.cell? ⟨w.heap.size, 6, none⟩ = some (.int .i64 0) := (hb1.cell (p := ⟨w.heap.size, 6, none⟩) (by simp <;> omega)).trans (by go_simp); have w1rf6 : w1.frozen? ⟨w.heap.size, 6, none⟩ = false := (hb1.frozen (p := ⟨w.heap.size, 6, none⟩) (by simp <;> omega)).trans (by go_simp); have w1r7 : w1.cell? ⟨w.heap.size, 7, none⟩ = some (.int .i64 0) := (hb1.cell (p := ⟨w.heap.size, 7, none⟩) (by simp <;> omega)).trans (by go_simp); have w1rf7 : w1.frozen? ⟨w.heap.size, 7, none⟩ = false := (hb1.frozen (p := ⟨w.heap.size, 7, none⟩) (by simp <;> omega)).trans (by go_simp); have w1r8 : w1.cell? ⟨w.heap.size, 8, none⟩ = some (.int .i64 0) := (hb1.cell (p := ⟨w.heap.size, 8, none⟩) (by simp <;> omega)).trans (by go_simp); have w1rf8 : w1.frozen? ⟨w.heap.size, 8, none⟩ = false := (hb1.frozen (p := ⟨w.heap.size, 8, none⟩) (by simp <;> omega)).trans (by go_simp); have w1r9 : w1.cell? ⟨w.heap.size, 9, none⟩ = some (.int .i64 0) := (hb1.cell (p := ⟨w.heap.size, 9, none⟩) (by simp <;> omega)).trans (by go_simp); have w1rf9 : w1.frozen? ⟨w.heap.size, 9, none⟩ = false := (hb1.frozen (p := ⟨w.heap.size, 9, none⟩) (by simp <;> omega)).trans (by go_simp); have w1r10 : w1.cell? ⟨w.heap.size, 10, none⟩ = some (.int .i64 0) := (hb1.cell (p := ⟨w.heap.size, 10, none⟩) (by simp <;> omega)).trans (by go_simp); have w1rf10 : w1.frozen? ⟨w.heap.size, 10, none⟩ = false := (hb1.frozen (p := ⟨w.heap.size, 10, none⟩) (by simp <;> omega)).trans (by go_simp); have w1r11 : w1.cell? ⟨w.heap.size, 11, none⟩ = some (.int .i64 0) := (hb1.cell (p := ⟨w.heap.size, 11, none⟩) (by simp <;> omega)).trans (by go_simp); have w1rf11 : w1.frozen? ⟨w.heap.size, 11, none⟩ = false := (hb1.frozen (p := ⟨w.heap.size, 11, none⟩) (by simp <;> omega)).trans (by go_simp); have w1r12 : w1.cell? ⟨w.heap.size, 12, none⟩ = some (.int .i64 0) := (hb1.cell (p := ⟨w.heap.size, 12, none⟩) (by simp <;> omega)).trans (by go_simp); have w1rf12 : w1.frozen? ⟨w.heap.size, 12, none⟩ = false := (hb1.frozen (p := ⟨w.heap.size, 12, none⟩) (by simp <;> omega)).trans (by go_simp); have w1r13 : w1.cell? ⟨w.heap.size, 13, none⟩ = some (.slice none 0 0) := (hb1.cell (p := ⟨w.heap.size, 13, none⟩) (by simp <;> omega)).trans (by go_simp); have w1rf13 : w1.frozen? ⟨w.heap.size, 13, none⟩ = false := (hb1.frozen (p := ⟨w.heap.size, 13, none⟩) (by simp <;> omega)).trans (by go_simp); have w1r14 : w1.cell? ⟨w.heap.size, 14, none⟩ = some (.slice none 0 0) := (hb1.cell (p := ⟨w.heap.size, 14, none⟩) (by simp <;> omega)).trans (by go_simp); have w1rf14 : w1.frozen? ⟨w.heap.size, 14, none⟩ = false := (hb1.frozen (p := ⟨w.heap.size, 14, none⟩) (by simp <;> omega)).trans (by go_simp); have w1r15 : w1.cell? ⟨w.heap.size, 15, none⟩ = some (.slice none 0 0) := (hb1.cell (p := ⟨w.heap.size, 15, none⟩) (by simp <;> omega)).trans (by go_simp); have w1rf15 : w1.frozen? ⟨w.heap.size, 15, none⟩ = false := (hb1.frozen (p := ⟨w.heap.size, 15, none⟩) (by simp <;> omega)).trans (by go_simp); clear hb1 ho1 hg1))
  have hol := HO1.out.lt m (fun h0 => strs_ne (by rw [HSS.out]; exact h0))
  have hgn : ∀ g, a = some ⟨g, 0, none⟩ → (newSS n).map Value.string ≠ [] → w.heap.size < g := fun g hg hne => by
    have := HG1.out g (by subst hg; exact blk_pos _ _ _ hm)
    simp at this; omega
  refine bodyPost_ret (v := worldV wd a m c a' c' (some ⟨w1.heap.size, 0, none⟩) 1 1) (by simp [results, Try.results46, go_sem, worldV, hl1, w1r0, w1r1, w1r2, w1r3, w1r4, w1r5, w1r6, w1r7, w1r8, w1r9, w1r10, w1r11, w1r12, w1r13, w1r14, w1r15]) rfl ⟨a, c, a', c', _, 1, by rw [HSS.out], ?_, ?_, ?_, ?_, ?_⟩
  · refine OwnS.below ?_ ((Below.refl _ _).alloc (Nat.le_refl _) _)
    iterate 16 (refine OwnS.setw ?_ _ (fun g hg hne => by have := hgn g hg hne; show w.heap.size ≠ g; omega) _)
    exact HO1.out
  · exact .inr ⟨w1.heap.size, rfl, row_atw (by simp)⟩
  · intro g hg
    rw [HSS.out] at hg
    have e1 := HG1.out g hg
    have e2 := hol g hg
    simp at e1
    exact ⟨by omega, fun k hk => by rw [blk_pos _ _ _ (by omega)] at hk; cases hk; omega⟩
  · intro g hg
    rw [blk_pos _ _ _ (by omega)] at hg; cases hg; omega
  · refine Below.alloc ?_ (by simp; omega) _
    iterate 16 (refine Below.setCell ?_ (by show w.heap.size ≤ w.heap.size; omega) _)
    exact HB1.out

theorem nw_s (n wd : Int) (w : World) : Calls Try.prog 45 #[.int .i64 n, .int .i64 wd] w fun e w' => NwPost w w' e (nwW n wd) (nwS n wd) (nwM n wd) := by
  by_cases h : nwOk n wd
  · unfold nwW nwS nwM; rw [if_pos h, if_pos h, if_pos h]; exact nw_s_yes n wd w h.1 h.2
  · unfold nwW nwS nwM; rw [if_neg h, if_neg h, if_neg h]; exact nw_s_no n wd w h
theorem nw_i (n wd : Int) (w : World) : Calls Try.prog 46 #[.int .i64 n, .int .i64 wd] w fun e w' => NwPost w w' e (nwW n wd) (nwS n wd) (nwM n wd) := by
  by_cases h : nwOk n wd
  · unfold nwW nwS nwM; rw [if_pos h, if_pos h, if_pos h]; exact nw_i_yes n wd w h.1 h.2
  · unfold nwW nwS nwM; rw [if_neg h, if_neg h, if_neg h]; exact nw_i_no n wd w h
end Go.Proofs.Ytnmaknnnmjfhkad.nw
