import Derived.Deep.Cut
import Derived.Deep.CutRange
import Derived.Test.YtnmaknnnmjfhkaeDoorPrG38
import Derived.Test.YtnmaknnnmjfhkaeDoorPrBtD
import Derived.Test.YtnmaknnnmjfhkaeDoorPrG26
import Derived.Test.YtnmaknnnmjfhkaeDoorPrFbS
import Derived.Test.YtnmaknnnmjfhkaeDoorPrPage1
namespace Go.Proofs.YtnmaknnnmjfhkaeDoor
open Go.RowKit
set_option maxRecDepth 8000
set_option linter.unusedVariables false
set_option linter.unusedSimpArgs false
set_option maxHeartbeats 4000000 in
theorem entry_r (W : World) (R : Nat) (a : Option Addr) (n c : Nat) (p : Int) (w : World) (h : Rdr w R a n c p) (hp : p < 99980000) (hW : W.heap.size ≤ R) (hbe : Below W.heap.size W w) : Calls Tryd.prog 29 #[.pointer (some ⟨R, 0, none⟩)] w fun e w' => (∃ t : ByteArray, e = .returned (.string t) ∧ t.size ≤ 64000) ∧ (∃ q, p ≤ q ∧ q ≤ p + 610 ∧ Rdr w' R a n c q) ∧ Below W.heap.size W w' := by
  go_enter Tryd.func29, Tryd.ntmps29
  go_wp2_with fail
  refine (pick_r R a n c p 3 _ h (by omega)).mono ?_
  rintro e w1 ⟨⟨v, rfl, v0, v1⟩, hr1, hg1⟩
  have be1 := hbe.trans (grown_below hg1 hbe.size (fun g e => by cases e; omega))
  clear hg1 hbe h
  by_cases hv : v = 0
  · subst hv
    go_wp2_with fail
    refine (pick_r R a n c (p + 1) 60 _ hr1 (by omega)).mono ?_
    rintro e w2 ⟨⟨u, rfl, u0, u1⟩, hr2, hg2⟩
    have be2 := be1.trans (grown_below hg2 be1.size (fun g e => by cases e; omega))
    clear hg2 be1 hr1
    go_wp2_with fail
    refine (many_r _ u _ (by decide) (by omega)).mono ?_
    rintro e w3 ⟨⟨t, rfl, ht⟩, hb3⟩
    go_wp2
    go_ret
    exact ⟨⟨t, rfl, ht⟩, ⟨p + 1 + 1, by omega, by omega, hr2.below hb3⟩, be2.trans (hb3.mono be2.size)⟩
  · have hvb : (v == 0) = false := by simp [hv]
    go_wp2_with fail
    refine (batch_r R a n c (p + 1) _ hr1 (by omega)).mono ?_
    rintro e w2 ⟨⟨y, rs, rfl, hown, hl, hle⟩, ⟨q, hq0, hq1, hr2⟩, hg2⟩
    have be2 := be1.trans (grown_below hg2 be1.size (fun g e => by cases e; omega))
    obtain ⟨va, vc, rfl, hch⟩ := own_chsG hown
    clear hown hg2 be1 hr1
    go_wp2_with fail
    refine (formbatch_s va rs vc _ hch (by omega) (fun x hx => ⟨Nat.le_trans (hle x hx).1 (by omega), Nat.le_trans (hle x hx).2 (by omega)⟩)).mono ?_
    rintro e w3 ⟨rfl, hb3⟩
    have hs := bOut_size rs
    go_wp2
    go_ret
    exact ⟨⟨_, rfl, by omega⟩, ⟨q, by omega, by omega, hr2.below hb3⟩, be2.trans (hb3.mono be2.size)⟩
set_option maxHeartbeats 16000000 in
theorem dcut_r (a : Option Addr) (n c : Nat) (w : World) (h : Bys w a n) (hn : n ≤ 1048576) (hc : n ≤ c) :
    Calls Tryd.prog 6 #[.slice a n c] w fun e w' => (∃ (t : ByteArray) (l f wd : Int), e = .returned (.tuple #[.string t, .int .i64 l, .int .i64 f, .int .i64 wd]) ∧ t.size ≤ 64000 ∧ (0 ≤ l ∧ l ≤ 60001) ∧ (-1 ≤ f ∧ f ≤ 1000000001) ∧ (0 ≤ wd ∧ wd ≤ 9)) ∧ Below w.heap.size w w' := by
  go_enter Tryd.func6, Tryd.ntmps6
  go_wp2_with fail
  refine (open_r a n c _ h hn hc).mono ?_
  rintro e w1 ⟨rfl, ⟨n', c', hr1⟩, be1⟩
  have lR : w.heap.size < w1.heap.size := lt_of_cell hr1.pc
  go_wp2_with fail
  refine (width_r w.heap.size a n' c' 0 _ hr1 (by omega)).mono ?_
  rintro e w2 ⟨⟨wd, rfl, wd0, wd1⟩, hr2, hg2⟩
  have be2 := be1.trans (grown_below hg2 be1.size (fun g e => by cases e; omega))
  clear hg2 be1 hr1
  go_wp2_with fail
  refine (entry_r w w.heap.size a n' c' (0 + 1) _ hr2 (by omega) (Nat.le_refl _) be2).mono ?_
  rintro e w3 ⟨⟨t, rfl, ht⟩, ⟨q3, q30, q31, hr3⟩, be3⟩
  clear be2 hr2
  go_wp2_with fail
  refine (pick_r w.heap.size a n' c' q3 4 _ hr3 (by omega)).mono ?_
  rintro e w4 ⟨⟨z, rfl, z0, z1⟩, hr4, hg4⟩
  have be4 := be3.trans (grown_below hg4 be3.size (fun g e => by cases e; omega))
  clear hg4 be3 hr3
  go_upto_if 19 with fail
  go_cut [8] from 20 to 29 (fun ev wx => ∃ (t : ByteArray) (q : Int), ev = .string t ∧ t.size ≤ 64000 ∧ 0 ≤ q ∧ q ≤ 2000 ∧ Rdr wx w.heap.size a n' c' q ∧ Below w.heap.size w wx)
  case first =>
    by_cases hz : z = 0
    · subst hz
      go_wp2_with fail
      refine (part_s wd _ (by omega) (by omega)).mono ?_
      rintro e wz ⟨rfl, hwz⟩
      rw [hwz]
      clear hwz wz
      go_wp2_with fail
      refine (pick_r w.heap.size a n' c' (q3 + 1) 4 _ hr4 (by omega)).mono ?_
      rintro e w5 ⟨⟨x, rfl, x0, x1⟩, hr5, hg5⟩
      have be5 := be4.trans (grown_below hg5 be4.size (fun g e => by cases e; omega))
      obtain ⟨pm, hpm⟩ : ∃ pm, pm = (64 - wd - 8) * x := ⟨_, rfl⟩
      have hx3 : x = 0 ∨ x = 1 ∨ x = 2 ∨ x = 3 := by omega
      have hpb : 0 ≤ pm ∧ pm ≤ 165 := by rcases hx3 with rfl | rfl | rfl | rfl <;> omega
      have hpw : IntKind.i64.wrap pm = pm := wrap_i64_id _ (by omega) (by omega)
      rw [hpm] at hpw
      clear hg5 be4 hr4
      go_wp2_with fail
      refine (pick_r w.heap.size a n' c' (q3 + 1 + 1) 3 _ hr5 (by omega)).mono ?_
      rintro e w6 ⟨⟨y, rfl, y0, y1⟩, hr6, hg6⟩
      have be6 := be5.trans (grown_below hg6 be5.size (fun g e => by cases e; omega))
      rw [← hpm]
      have hs1 : IntKind.i64.wrap (pm + y) = pm + y := wrap_i64_id _ (by omega) (by omega)
      have hs2 : IntKind.i64.wrap (pm + y - 1) = pm + y - 1 := wrap_i64_id _ (by omega) (by omega)
      clear hg6 be5 hr5 hpm hpw
      go_wp2_with fail
      refine (many_r _ (pm + y - 1) _ (by decide) (by omega)).mono ?_
      rintro e w7 ⟨⟨t7, rfl, ht7⟩, hb7⟩
      go_wp2_with fail
      go_meet
      exact ⟨t7, q3 + 1 + 1 + 1, rfl, ht7, by omega, by omega, hr6.below hb7, be6.trans (hb7.mono be6.size)⟩
    · have hzb : (z == 0) = false := by simp [hz]
      go_wp2_with fail
      go_meet
      exact ⟨t, q3 + 1, rfl, ht, by omega, by omega, hr4, be4⟩
  case rest =>
  obtain ⟨t, q, rfl, ht, q0, q1, hr5, be5⟩ := hcut
  clear z0 z1 hr4 be4 q30 q31
  go_upto_region 6 with fail
  go_cut [9] from 30 to 34 (fun lv wx => ∃ (l : Int) , lv = .int .i64 l ∧ 1 ≤ l ∧ l ≤ 60000 ∧ Rdr wx w.heap.size a n' c' (q + 1) ∧ Below w.heap.size w wx)
  case first =>
    go_wp2_with fail
    refine (pick_r w.heap.size a n' c' q 3 _ (hr5.below (below_nw _ _)) (by omega)).mono ?_
    rintro e w6 ⟨⟨v, rfl, v0, v1⟩, hr6, hg6⟩
    have hs_6 := be5.size
    have lw_6 : w.heap.size < wc.heap.size := lt_of_cell hr5.pc
    have be6 := (be5.trans ((below_nw wc (.cells #[.int .i64 1, .int .i64 7, .int .i64 60000] 3)).mono be5.size)).trans (grown_below hg6 (by simp; omega) (fun g e => by cases e; omega))
    have d0 := cell_grown (b := wc.heap.size) (i := 0) hg6 (by omega) (v := .int .i64 1) (by simp)
    have d1 := cell_grown (b := wc.heap.size) (i := 1) hg6 (by omega) (v := .int .i64 7) (by simp)
    have d2 := cell_grown (b := wc.heap.size) (i := 2) hg6 (by omega) (v := .int .i64 60000) (by simp)
    have hv : v = 0 ∨ v = 1 ∨ v = 2 := by omega
    clear v0 v1 hg6
    rcases hv with rfl | rfl | rfl <;> (go_wp2_with fail; go_meet; exact ⟨_, rfl, by omega, by omega, hr6, be6⟩)
  case rest =>
  obtain ⟨l, rfl, l0, l1, hr6, be6⟩ := hcut
  clear hr5 be5
  go_upto_region 7 with fail
  go_cut [10] from 35 to 39 (fun lv wx => ∃ (f : Int) , lv = .int .i64 f ∧ 1 ≤ f ∧ f ≤ 1000000000 ∧ Rdr wx w.heap.size a n' c' (q + 1 + 1) ∧ Below w.heap.size w wx)
  case first =>
    go_wp2_with fail
    refine (pick_r w.heap.size a n' c' (q + 1) 5 _ (hr6.below (below_nw _ _)) (by omega)).mono ?_
    rintro e w7 ⟨⟨v, rfl, v0, v1⟩, hr7, hg7⟩
    have hs_7 := be6.size
    have lw_7 : w.heap.size < wc.heap.size := lt_of_cell hr6.pc
    have be7 := (be6.trans ((below_nw wc (.cells #[.int .i64 1, .int .i64 500, .int .i64 1000000000, .int .i64 999999999, .int .i64 999999998] 3)).mono be6.size)).trans (grown_below hg7 (by simp; omega) (fun g e => by cases e; omega))
    have d0 := cell_grown (b := wc.heap.size) (i := 0) hg7 (by omega) (v := .int .i64 1) (by simp)
    have d1 := cell_grown (b := wc.heap.size) (i := 1) hg7 (by omega) (v := .int .i64 500) (by simp)
    have d2 := cell_grown (b := wc.heap.size) (i := 2) hg7 (by omega) (v := .int .i64 1000000000) (by simp)
    have d3 := cell_grown (b := wc.heap.size) (i := 3) hg7 (by omega) (v := .int .i64 999999999) (by simp)
    have d4 := cell_grown (b := wc.heap.size) (i := 4) hg7 (by omega) (v := .int .i64 999999998) (by simp)
    have hv : v = 0 ∨ v = 1 ∨ v = 2 ∨ v = 3 ∨ v = 4 := by omega
    clear v0 v1 hg7
    rcases hv with rfl | rfl | rfl | rfl | rfl <;> (go_wp2_with fail; go_meet; exact ⟨_, rfl, by omega, by omega, hr7, be7⟩)
  case rest =>
  obtain ⟨f, rfl, f0, f1, hr7, be7⟩ := hcut
  clear hr6 be6
  go_wp2_with fail
  refine (pick_r w.heap.size a n' c' (q + 1 + 1) 12 _ hr7 (by omega)).mono ?_
  rintro e w8 ⟨⟨z, rfl, z0, z1⟩, hr8, hg8⟩
  have be8 := be7.trans (grown_below hg8 be7.size (fun g e => by cases e; omega))
  clear hg8 be7 hr7
  by_cases hz0 : z = 0
  · subst hz0
    go_wp2_with fail
    refine (pick_r w.heap.size a n' c' (q + 1 + 1 + 1) 2 _ (hr8.below (below_nw _ _)) (by omega)).mono ?_
    rintro e w9 ⟨⟨v, rfl, v0, v1⟩, hr9, hg9⟩
    have hs_9 := be8.size
    have lw_9 : w.heap.size < w8.heap.size := lt_of_cell hr8.pc
    have be9 := (be8.trans ((below_nw w8 (.cells #[.int .i64 0, .int .i64 60001] 3)).mono be8.size)).trans (grown_below hg9 (by simp; omega) (fun g e => by cases e; omega))
    have d0 := cell_grown (b := w8.heap.size) (i := 0) hg9 (by omega) (v := .int .i64 0) (by simp)
    have d1 := cell_grown (b := w8.heap.size) (i := 1) hg9 (by omega) (v := .int .i64 60001) (by simp)
    have hv : v = 0 ∨ v = 1 := by omega
    clear v0 v1 hg9
    rcases hv with rfl | rfl
    · go_wp2
      refine bodyPost_ret (v := .tuple #[.string t, .int .i64 0, .int .i64 f, .int .i64 wd]) (by simp [results, Tryd.results6, go_sem]) rfl ⟨⟨t, 0, f, wd, rfl, ht, by omega, by omega, by omega⟩, be9⟩
    · go_wp2
      refine bodyPost_ret (v := .tuple #[.string t, .int .i64 60001, .int .i64 f, .int .i64 wd]) (by simp [results, Tryd.results6, go_sem]) rfl ⟨⟨t, 60001, f, wd, rfl, ht, by omega, by omega, by omega⟩, be9⟩
  have hzb0 : (z == 0) = false := by simp [hz0]
  by_cases hz1 : z = 1
  · subst hz1
    go_wp2_with fail
    refine (pick_r w.heap.size a n' c' (q + 1 + 1 + 1) 3 _ (hr8.below (below_nw _ _)) (by omega)).mono ?_
    rintro e w9 ⟨⟨v, rfl, v0, v1⟩, hr9, hg9⟩
    have hs_9 := be8.size
    have lw_9 : w.heap.size < w8.heap.size := lt_of_cell hr8.pc
    have be9 := (be8.trans ((below_nw w8 (.cells #[.int .i64 0, .int .i64 (-1), .int .i64 1000000001] 3)).mono be8.size)).trans (grown_below hg9 (by simp; omega) (fun g e => by cases e; omega))
    have d0 := cell_grown (b := w8.heap.size) (i := 0) hg9 (by omega) (v := .int .i64 0) (by simp)
    have d1 := cell_grown (b := w8.heap.size) (i := 1) hg9 (by omega) (v := .int .i64 (-1)) (by simp)
    have d2 := cell_grown (b := w8.heap.size) (i := 2) hg9 (by omega) (v := .int .i64 1000000001) (by simp)
    have hv : v = 0 ∨ v = 1 ∨ v = 2 := by omega
    clear v0 v1 hg9
    rcases hv with rfl | rfl | rfl
    · go_wp2
      refine bodyPost_ret (v := .tuple #[.string t, .int .i64 l, .int .i64 0, .int .i64 wd]) (by simp [results, Tryd.results6, go_sem]) rfl ⟨⟨t, l, 0, wd, rfl, ht, by omega, by omega, by omega⟩, be9⟩
    · go_wp2
      refine bodyPost_ret (v := .tuple #[.string t, .int .i64 l, .int .i64 (-1), .int .i64 wd]) (by simp [results, Tryd.results6, go_sem]) rfl ⟨⟨t, l, (-1), wd, rfl, ht, by omega, by omega, by omega⟩, be9⟩
    · go_wp2
      refine bodyPost_ret (v := .tuple #[.string t, .int .i64 l, .int .i64 1000000001, .int .i64 wd]) (by simp [results, Tryd.results6, go_sem]) rfl ⟨⟨t, l, 1000000001, wd, rfl, ht, by omega, by omega, by omega⟩, be9⟩
  have hzb1 : (z == 1) = false := by simp [hz1]
  by_cases hz2 : z = 2
  · subst hz2
    go_wp2_with fail
    refine (pick_r w.heap.size a n' c' (q + 1 + 1 + 1) 2 _ (hr8.below (below_nw _ _)) (by omega)).mono ?_
    rintro e w9 ⟨⟨v, rfl, v0, v1⟩, hr9, hg9⟩
    have hs_9 := be8.size
    have lw_9 : w.heap.size < w8.heap.size := lt_of_cell hr8.pc
    have be9 := (be8.trans ((below_nw w8 (.cells #[.int .i64 0, .int .i64 9] 3)).mono be8.size)).trans (grown_below hg9 (by simp; omega) (fun g e => by cases e; omega))
    have d0 := cell_grown (b := w8.heap.size) (i := 0) hg9 (by omega) (v := .int .i64 0) (by simp)
    have d1 := cell_grown (b := w8.heap.size) (i := 1) hg9 (by omega) (v := .int .i64 9) (by simp)
    have hv : v = 0 ∨ v = 1 := by omega
    clear v0 v1 hg9
    rcases hv with rfl | rfl
    · go_wp2
      refine bodyPost_ret (v := .tuple #[.string t, .int .i64 l, .int .i64 f, .int .i64 0]) (by simp [results, Tryd.results6, go_sem]) rfl ⟨⟨t, l, f, 0, rfl, ht, by omega, by omega, by omega⟩, be9⟩
    · go_wp2
      refine bodyPost_ret (v := .tuple #[.string t, .int .i64 l, .int .i64 f, .int .i64 9]) (by simp [results, Tryd.results6, go_sem]) rfl ⟨⟨t, l, f, 9, rfl, ht, by omega, by omega, by omega⟩, be9⟩
  have hzb2 : (z == 2) = false := by simp [hz2]
  go_wp2
  refine bodyPost_ret (v := .tuple #[.string t, .int .i64 l, .int .i64 f, .int .i64 wd]) (by simp [results, Tryd.results6, go_sem]) rfl ⟨⟨t, l, f, wd, rfl, ht, by omega, by omega, by omega⟩, be8⟩
end Go.Proofs.YtnmaknnnmjfhkaeDoor
