import Derived.Test.YtnmaknnnmjfhkacPt
import Derived.Test.YtnmaknnnmjfhkacRgM
import Derived.Test.YtnmaknnnmjfhkacBytes
import Derived.Test.YtnmaknnnmjfhkacStp
import Derived.Deep.RegionHeld3
import Derived.BigQuiet
import Derived.Deep.QuietTactic
namespace Go.Proofs.Ytnmaknnnmjfhkac
open Go.RowKit
set_option maxRecDepth 8000
set_option linter.unusedVariables false
set_option linter.unusedSimpArgs false

theorem bytes_1 (w : World) (b : Nat) (n : Int) (h : w.cell? ⟨b, 0, none⟩ = some (.int .u8 n)) : (convert 22 9 (.slice (some ⟨b, 0, none⟩) 1 1)).run Try.prog w = .ok (.string (strOfNums [n])) w :=
  run_convert_bytes_arg (P := Try.prog) _ 22 5 Try.underlying22 Try.underlying5 b 0 1 1 [n] rfl (fun i hi => by
    have : i = 0 := by omega
    subst this; simpa using h) 9 Try.underlying9
theorem getbB (b : ByteArray) (i : Nat) (h : i < b.size) : (b[i]'h).toNat = (b.data.toList.getD i 0).toNat := by
  have hl : i < b.data.toList.length := h
  rw [List.getD_eq_getElem?_getD, List.getElem?_eq_getElem hl]
  rfl
theorem shl_small (x : Nat) (h : x < 8) : ∃ S1 : Nat, IntKind.i64.wrap ((2 : Int) ^ x) = (S1 : Int) ∧ S1 ≤ 128 ∧ 2 ^ x = S1 := by
  refine ⟨2 ^ x, ?_, ?_, rfl⟩ <;> (have hx : x = 0 ∨ x = 1 ∨ x = 2 ∨ x = 3 ∨ x = 4 ∨ x = 5 ∨ x = 6 ∨ x = 7 := (by omega); rcases hx with rfl | rfl | rfl | rfl | rfl | rfl | rfl | rfl <;> decide)
theorem bend_at (v : Int) (n : Nat) (h0 : 0 ≤ v) (h1 : v ≤ 255) (hn : n ≤ 100000000) : ∃ P : Int, ∃ i : Nat, v * ((n : Int) + 1) = P ∧ 0 ≤ P ∧ P ≤ 100000000000 ∧ P.tdiv 256 = (i : Int) ∧ P / 256 = (i : Int) ∧ i ≤ n := by
  obtain ⟨x, rfl⟩ : ∃ x : Nat, v = (x : Int) := ⟨v.toNat, by omega⟩
  have hx : x ≤ 255 := by omega
  have hm : x * (n + 1) ≤ 255 * (n + 1) := Nat.mul_le_mul_right _ hx
  refine ⟨((x * (n + 1) : Nat) : Int), x * (n + 1) / 256, by simp, by omega, by omega, ?_, by omega, by omega⟩
  rw [Int.tdiv_eq_ediv_of_nonneg (by omega)]
  omega
set_option maxHeartbeats 8000000 in
theorem bend_r (R : Nat) (a : Option Addr) (n c : Nat) (p : Int) (s : ByteArray) (w : World) (h : Rdr w R a n c p) (hp : p < 99999000) (hs : s.size ≤ 100000000) : Calls Try.prog 44 #[.pointer (some ⟨R, 0, none⟩), .string s] w fun e w' => (∃ t : ByteArray, e = .returned (.string t) ∧ t.size ≤ 2 * s.size + 1) ∧ RdTo w R a n c p 10 w' := by
  have hR := lt_of_cell h.pc
  have p0 := h.p0
  go_enter Try.func44, Try.ntmps44
  go_wp2_with fail
  refine (pick_r R a n c p 256 _ h (by omega)).mono ?_
  rintro e w1 ⟨⟨v, rfl, v0, v1⟩, hr1, hg1⟩
  obtain ⟨Pd, i, hP, P0, P1, hPt, hPd, hi⟩ := bend_at v s.size v0 (by omega) hs
  have hw1 : IntKind.i64.wrap ((s.size : Int) + 1) = (s.size : Int) + 1 := wrap_i64_id _ (by omega) (by omega)
  have hw2 : IntKind.i64.wrap Pd = Pd := wrap_i64_id _ (by omega) (by omega)
  have hw3 : IntKind.i64.wrap (i : Int) = (i : Int) := wrap_i64_id _ (by omega) (by omega)
  have hw4 : IntKind.i64.wrap ((i : Int) + 1) = (i : Int) + 1 := wrap_i64_id _ (by omega) (by omega)
  have z1 : ∀ x y : Nat, x + y ≤ 1000000000 → ¬ (9223372036854775807 < x + y) := fun x y hxy => by omega
  have hii : (i : Int) ≤ (s.size : Int) := by omega
  clear h v0 v1
  go_wp2_with fail
  refine (pick_r R a n c (p + 1) 5 _ hr1 (by omega)).mono ?_
  rintro e w2 ⟨⟨u, rfl, u0, u1⟩, hr2, hg2⟩
  have HR := hid hr2
  have HG := hid (grown_trans hg1 hg2)
  have lR2 := lt_of_cell hr2.pc
  clear hr1 hg1 hg2 hr2 hP hPt hPd hw2
  have e0 : (s.extract 0 i).size = i := by simp only [ByteArray.size_extract]; omega
  have e1 : (s.extract i s.size).size = s.size - i := by simp only [ByteArray.size_extract]; omega
  have hu : u = 0 ∨ u = 1 ∨ u = 2 ∨ u = 3 ∨ u = 4 := by omega
  clear u0 u1
  rcases hu with rfl | rfl | rfl | rfl | rfl
  · go_wp2
    go_ret
    exact ⟨⟨_, rfl, by omega⟩, ⟨p + 1 + 1, by omega, by omega, HR.out⟩, HG.out⟩
  · go_wp2_with fail
    refine wp_region_held_drew (S := fun w' => True) (by kernel_rfl) (trivial) (fun hHeld => ?_)
    refine wpAnyH_take (i := 0) (v := .string s) rfl (by kernel_rfl) (by kernel_rfl) (by kernel_rfl) (fun _ _ _ h => h) (Or.inl ⟨by rfl, fun w hw => by obtain z0 := hw; go_simp⟩) hHeld ?_
    simp only [Act.put, List.getElem_toArray, List.getElem_cons_zero, List.getElem_cons_succ, List.setIfInBounds_toArray, List.set_cons_zero, List.set_cons_succ]
    refine wpAnyH_take (i := 1) (v := .int .i64 (i : Int)) rfl (by kernel_rfl) (by kernel_rfl) (by kernel_rfl) (fun _ _ _ h => h) (Or.inl ⟨by rfl, fun w hw => by obtain z0 := hw; go_simp⟩) hHeld ?_
    simp only [Act.put, List.getElem_toArray, List.getElem_cons_zero, List.getElem_cons_succ, List.setIfInBounds_toArray, List.set_cons_zero, List.set_cons_succ]
    refine wpAnyH_take (i := 2) (v := .string (s.extract 0 i)) rfl (by kernel_rfl) (by kernel_rfl) (by kernel_rfl) (fun _ _ _ h => h) (Or.inl ⟨by rfl, fun w hw => by obtain z0 := hw; go_simp⟩) hHeld ?_
    simp only [Act.put, List.getElem_toArray, List.getElem_cons_zero, List.getElem_cons_succ, List.setIfInBounds_toArray, List.set_cons_zero, List.set_cons_succ]
    refine wpAnyH_take (i := 4) (v := .pointer (some ⟨R, 0, none⟩)) rfl (by kernel_rfl) (by kernel_rfl) (by kernel_rfl) (fun _ _ _ h => h) (Or.inl ⟨by rfl, fun w hw => by obtain z0 := hw; go_simp⟩) hHeld ?_
    simp only [Act.put, List.getElem_toArray, List.getElem_cons_zero, List.getElem_cons_succ, List.setIfInBounds_toArray, List.set_cons_zero, List.set_cons_succ]
    refine wpAnyH_take (i := 9) (v := .string s) rfl (by kernel_rfl) (by kernel_rfl) (by kernel_rfl) (fun _ _ _ h => h) (Or.inl ⟨by rfl, fun w hw => by obtain z0 := hw; go_simp⟩) hHeld ?_
    simp only [Act.put, List.getElem_toArray, List.getElem_cons_zero, List.getElem_cons_succ, List.setIfInBounds_toArray, List.set_cons_zero, List.set_cons_succ]
    refine wpAnyH_take (i := 10) (v := .int .i64 (i : Int)) rfl (by kernel_rfl) (by kernel_rfl) (by kernel_rfl) (fun _ _ _ h => h) (Or.inl ⟨by rfl, fun w hw => by obtain z0 := hw; go_simp⟩) hHeld ?_
    simp only [Act.put, List.getElem_toArray, List.getElem_cons_zero, List.getElem_cons_succ, List.setIfInBounds_toArray, List.set_cons_zero, List.set_cons_succ]
    refine wpAnyH_take (i := 11) (v := .string (s.extract i s.size)) rfl (by kernel_rfl) (by kernel_rfl) (by kernel_rfl) (fun _ _ _ h => h) (Or.inl ⟨by rfl, fun w hw => by obtain z0 := hw; go_simp⟩) hHeld ?_
    simp only [Act.put, List.getElem_toArray, List.getElem_cons_zero, List.getElem_cons_succ, List.setIfInBounds_toArray, List.set_cons_zero, List.set_cons_succ]
    refine wpAnyH_ready (rs := [3, 5]) (by kernel_rfl) (by simp) ?_
    refine AllReadyH.cons rfl (fun K hK => ?_) (AllReadyH.cons rfl (fun K hK => ?_) AllReadyH.nil)
    · go_simp
      obtain ⟨w4, e_w4⟩ : ∃ xw, xw = (w2.alloc (.cells #[.string ⟨#[32]⟩, .string ⟨#[10]⟩, .string ⟨#[0]⟩, .string ⟨#[1]⟩, .string ⟨#[48]⟩, .string ⟨#[120]⟩] 9)).drew := ⟨_, rfl⟩
      have hb4 : Below w2.heap.size w2 w4 := by rw [e_w4]; exact (below_nw _ _).drew
      have r4 : Row w4 w2.heap.size [.string ⟨#[32]⟩, .string ⟨#[10]⟩, .string ⟨#[0]⟩, .string ⟨#[1]⟩, .string ⟨#[48]⟩, .string ⟨#[120]⟩] := by rw [e_w4]; exact (row_new _ _ _).drew
      rw [← e_w4]
      clear e_w4
      obtain ⟨B4, e_B4⟩ : ∃ xb, xb = w2.heap.size := ⟨_, rfl⟩
      rw [← e_B4] at r4 ⊢
      have hneB : B4 ≠ R := by rw [e_B4]; show w2.heap.size ≠ R; omega
      have hr4 := HR.out.below hb4
      have hg4 : w.grownBy w4 (some R) := grown_trans HG.out (grown_of_below (some R) hb4)
      clear e_B4
      refine hK.out _ _ hHeld (fun _ => ?_)
      clear hK K
      try simp only [Act.put, List.getElem_toArray, List.getElem_cons_zero, List.getElem_cons_succ, List.setIfInBounds_toArray, List.set_cons_zero, List.set_cons_succ]
      refine wpAnyH_ready (rs := [5]) (by kernel_rfl) (by simp) ?_
      refine AllReadyH.cons rfl (fun K hK => ?_) AllReadyH.nil
      refine step_call (by rfl) 36 #[.pointer (some ⟨R, 0, none⟩), .int .i64 6] (by go_simp) (pick_r R a n c (p + 1 + 1) 6 _ (hr4) (by omega)) ?_
      rintro e w3 ⟨⟨x', rfl, x0, x1⟩, hr3, hg3'⟩
      refine ⟨_, rfl, ?_⟩
      have hg3 := grown_trans hg4 hg3'
      obtain ⟨x, rfl⟩ : ∃ k : Nat, x' = (k : Int) := ⟨x'.toNat, by omega⟩
      have hx6 : x < 6 := by omega
      have hx6i : (x : Int) < 6 := by omega
      clear x1
      have r4 := r4.grown hg3' (fun e => by injection e with e; exact hneB e)
      have hr5 := hr3
      have hg5 := hg3
      clear hg3'
      refine hK.out _ _ hHeld (fun _ => ?_)
      clear hK K
      try simp only [Act.put, List.getElem_toArray, List.getElem_cons_zero, List.getElem_cons_succ, List.setIfInBounds_toArray, List.set_cons_zero, List.set_cons_succ]
      refine wpAnyH_take (i := 6) (v := .pointer (some ⟨B4, x, none⟩)) rfl (by kernel_rfl) (by kernel_rfl) (by kernel_rfl) (fun _ _ _ h => h) (Or.inl ⟨by rfl, fun w hw => by obtain z0 := hw; go_simp⟩) hHeld ?_
      simp only [Act.put, List.getElem_toArray, List.getElem_cons_zero, List.getElem_cons_succ, List.setIfInBounds_toArray, List.set_cons_zero, List.set_cons_succ]
      refine wpAnyH_ready (rs := [7]) (by kernel_rfl) (by simp) ?_
      refine AllReadyH.cons rfl (fun K hK => ?_) AllReadyH.nil
      obtain ⟨tx, hcx, htx⟩ : ∃ tx : ByteArray, w3.cell? ⟨B4, x, none⟩ = some (.string tx) ∧ tx.size = 1 := by
        have hx : x = 0 ∨ x = 1 ∨ x = 2 ∨ x = 3 ∨ x = 4 ∨ x = 5 := by omega
        rcases hx with rfl | rfl | rfl | rfl | rfl | rfl
        · exact ⟨_, r4.cell 0 _ rfl, by rfl⟩
        · exact ⟨_, r4.cell 1 _ rfl, by rfl⟩
        · exact ⟨_, r4.cell 2 _ rfl, by rfl⟩
        · exact ⟨_, r4.cell 3 _ rfl, by rfl⟩
        · exact ⟨_, r4.cell 4 _ rfl, by rfl⟩
        · exact ⟨_, r4.cell 5 _ rfl, by rfl⟩
      have z2 : ¬ (9223372036854775807 < i + 1) := by omega
      have z3 : ¬ (9223372036854775807 < (s.extract 0 i).size + tx.size) := by omega
      have z4 : ¬ (9223372036854775807 < (s.extract 0 i).size + tx.size + (s.extract i s.size).size) := by omega
      have z5 : ¬ (9223372036854775807 < (s.extract 0 i ++ tx).size + (s.extract i s.size).size) := by rw [ByteArray.size_append]; omega
      have z6 : ¬ (9223372036854775807 < i + 1 + (s.size - i)) := by omega
      go_simp
      refine hK.out _ _ hHeld (fun _ => ?_)
      clear hK K
      try simp only [Act.put, List.getElem_toArray, List.getElem_cons_zero, List.getElem_cons_succ, List.setIfInBounds_toArray, List.set_cons_zero, List.set_cons_succ]
      refine wpAnyH_take (i := 8) (v := .string (s.extract 0 i ++ tx)) rfl (by kernel_rfl) (by kernel_rfl) (by kernel_rfl) (fun _ _ _ h => h) (Or.inl ⟨by rfl, fun w hw => by obtain z0 := hw; go_simp⟩) hHeld ?_
      simp only [Act.put, List.getElem_toArray, List.getElem_cons_zero, List.getElem_cons_succ, List.setIfInBounds_toArray, List.set_cons_zero, List.set_cons_succ]
      refine wpAnyH_take (i := 12) (v := .string (s.extract 0 i ++ tx ++ s.extract i s.size)) rfl (by kernel_rfl) (by kernel_rfl) (by kernel_rfl) (fun _ _ _ h => h) (Or.inl ⟨by rfl, fun w hw => by obtain z0 := hw; go_simp⟩) hHeld ?_
      simp only [Act.put, List.getElem_toArray, List.getElem_cons_zero, List.getElem_cons_succ, List.setIfInBounds_toArray, List.set_cons_zero, List.set_cons_succ]
      refine wpAnyH_ready (rs := [13]) (by kernel_rfl) (by simp) ?_
      refine AllReadyH.cons rfl (fun K hK => ?_) AllReadyH.nil
      go_simp
      refine hK.out _ _ hHeld (fun _ => ?_)
      clear hK K
      try simp only [Act.put, List.getElem_toArray, List.getElem_cons_zero, List.getElem_cons_succ, List.setIfInBounds_toArray, List.set_cons_zero, List.set_cons_succ]
      refine wpAnyH_done (by kernel_rfl) ?_ _
      go_wp2
      go_ret
      exact ⟨⟨_, rfl, by simp only [ByteArray.size_append]; omega⟩, ⟨p + 1 + 1 + 1, by omega, by omega, hr5⟩, hg5⟩
    · refine step_call (by rfl) 36 #[.pointer (some ⟨R, 0, none⟩), .int .i64 6] (by go_simp) (pick_r R a n c (p + 1 + 1) 6 _ (HR.out.drew) (by omega)) ?_
      rintro e w3 ⟨⟨x', rfl, x0, x1⟩, hr3, hg3'⟩
      refine ⟨_, rfl, ?_⟩
      have hg3 := grown_trans (grown_trans HG.out (grown_of_below (some R) (Below.refl _ _).drew)) hg3'
      obtain ⟨x, rfl⟩ : ∃ k : Nat, x' = (k : Int) := ⟨x'.toNat, by omega⟩
      have hx6 : x < 6 := by omega
      have hx6i : (x : Int) < 6 := by omega
      clear x1
      clear hg3'
      refine hK.out _ _ hHeld (fun _ => ?_)
      clear hK K
      try simp only [Act.put, List.getElem_toArray, List.getElem_cons_zero, List.getElem_cons_succ, List.setIfInBounds_toArray, List.set_cons_zero, List.set_cons_succ]
      refine wpAnyH_ready (rs := [3]) (by kernel_rfl) (by simp) ?_
      refine AllReadyH.cons rfl (fun K hK => ?_) AllReadyH.nil
      go_simp
      obtain ⟨w4, e_w4⟩ : ∃ xw, xw = (w3.alloc (.cells #[.string ⟨#[32]⟩, .string ⟨#[10]⟩, .string ⟨#[0]⟩, .string ⟨#[1]⟩, .string ⟨#[48]⟩, .string ⟨#[120]⟩] 9)) := ⟨_, rfl⟩
      have hb4 : Below w3.heap.size w3 w4 := by rw [e_w4]; exact (below_nw _ _)
      have r4 : Row w4 w3.heap.size [.string ⟨#[32]⟩, .string ⟨#[10]⟩, .string ⟨#[0]⟩, .string ⟨#[1]⟩, .string ⟨#[48]⟩, .string ⟨#[120]⟩] := by rw [e_w4]; exact (row_new _ _ _)
      rw [← e_w4]
      clear e_w4
      obtain ⟨B4, e_B4⟩ : ∃ xb, xb = w3.heap.size := ⟨_, rfl⟩
      rw [← e_B4] at r4 ⊢
      have hr5 := hr3.below hb4
      have hg5 := grown_trans hg3 (grown_of_below (some R) hb4)
      clear e_B4
      refine hK.out _ _ hHeld (fun _ => ?_)
      clear hK K
      try simp only [Act.put, List.getElem_toArray, List.getElem_cons_zero, List.getElem_cons_succ, List.setIfInBounds_toArray, List.set_cons_zero, List.set_cons_succ]
      refine wpAnyH_take (i := 6) (v := .pointer (some ⟨B4, x, none⟩)) rfl (by kernel_rfl) (by kernel_rfl) (by kernel_rfl) (fun _ _ _ h => h) (Or.inl ⟨by rfl, fun w hw => by obtain z0 := hw; go_simp⟩) hHeld ?_
      simp only [Act.put, List.getElem_toArray, List.getElem_cons_zero, List.getElem_cons_succ, List.setIfInBounds_toArray, List.set_cons_zero, List.set_cons_succ]
      refine wpAnyH_ready (rs := [7]) (by kernel_rfl) (by simp) ?_
      refine AllReadyH.cons rfl (fun K hK => ?_) AllReadyH.nil
      obtain ⟨tx, hcx, htx⟩ : ∃ tx : ByteArray, w4.cell? ⟨B4, x, none⟩ = some (.string tx) ∧ tx.size = 1 := by
        have hx : x = 0 ∨ x = 1 ∨ x = 2 ∨ x = 3 ∨ x = 4 ∨ x = 5 := by omega
        rcases hx with rfl | rfl | rfl | rfl | rfl | rfl
        · exact ⟨_, r4.cell 0 _ rfl, by rfl⟩
        · exact ⟨_, r4.cell 1 _ rfl, by rfl⟩
        · exact ⟨_, r4.cell 2 _ rfl, by rfl⟩
        · exact ⟨_, r4.cell 3 _ rfl, by rfl⟩
        · exact ⟨_, r4.cell 4 _ rfl, by rfl⟩
        · exact ⟨_, r4.cell 5 _ rfl, by rfl⟩
      have z2 : ¬ (9223372036854775807 < i + 1) := by omega
      have z3 : ¬ (9223372036854775807 < (s.extract 0 i).size + tx.size) := by omega
      have z4 : ¬ (9223372036854775807 < (s.extract 0 i).size + tx.size + (s.extract i s.size).size) := by omega
      have z5 : ¬ (9223372036854775807 < (s.extract 0 i ++ tx).size + (s.extract i s.size).size) := by rw [ByteArray.size_append]; omega
      have z6 : ¬ (9223372036854775807 < i + 1 + (s.size - i)) := by omega
      go_simp
      refine hK.out _ _ hHeld (fun _ => ?_)
      clear hK K
      try simp only [Act.put, List.getElem_toArray, List.getElem_cons_zero, List.getElem_cons_succ, List.setIfInBounds_toArray, List.set_cons_zero, List.set_cons_succ]
      refine wpAnyH_take (i := 8) (v := .string (s.extract 0 i ++ tx)) rfl (by kernel_rfl) (by kernel_rfl) (by kernel_rfl) (fun _ _ _ h => h) (Or.inl ⟨by rfl, fun w hw => by obtain z0 := hw; go_simp⟩) hHeld ?_
      simp only [Act.put, List.getElem_toArray, List.getElem_cons_zero, List.getElem_cons_succ, List.setIfInBounds_toArray, List.set_cons_zero, List.set_cons_succ]
      refine wpAnyH_take (i := 12) (v := .string (s.extract 0 i ++ tx ++ s.extract i s.size)) rfl (by kernel_rfl) (by kernel_rfl) (by kernel_rfl) (fun _ _ _ h => h) (Or.inl ⟨by rfl, fun w hw => by obtain z0 := hw; go_simp⟩) hHeld ?_
      simp only [Act.put, List.getElem_toArray, List.getElem_cons_zero, List.getElem_cons_succ, List.setIfInBounds_toArray, List.set_cons_zero, List.set_cons_succ]
      refine wpAnyH_ready (rs := [13]) (by kernel_rfl) (by simp) ?_
      refine AllReadyH.cons rfl (fun K hK => ?_) AllReadyH.nil
      go_simp
      refine hK.out _ _ hHeld (fun _ => ?_)
      clear hK K
      try simp only [Act.put, List.getElem_toArray, List.getElem_cons_zero, List.getElem_cons_succ, List.setIfInBounds_toArray, List.set_cons_zero, List.set_cons_succ]
      refine wpAnyH_done (by kernel_rfl) ?_ _
      go_wp2
      go_ret
      exact ⟨⟨_, rfl, by simp only [ByteArray.size_append]; omega⟩, ⟨p + 1 + 1 + 1, by omega, by omega, hr5⟩, hg5⟩
  · by_cases hl : i < s.size
    · have hl' : (i : Int) < (s.size : Int) := by omega
      have hl2 : (i : Int) + 1 ≤ (s.size : Int) := by omega
      have hl0 : ¬ ((i : Int) + 1 < 0) := by omega
      have e2 : (s.extract (i + 1) s.size).size = s.size - (i + 1) := by simp only [ByteArray.size_extract]; omega
      have z2 : ¬ (9223372036854775807 < i + (s.size - (i + 1))) := by omega
      have z3 : ¬ (9223372036854775807 < (s.extract 0 i).size + (s.extract (i + 1) s.size).size) := by omega
      go_wp2_with fail
      refine wp_region_held_drew (S := fun w' => True) (by kernel_rfl) (trivial) (fun hHeld => ?_)
      refine wpAnyH_take (i := 0) (v := .string s) rfl (by kernel_rfl) (by kernel_rfl) (by kernel_rfl) (fun _ _ _ h => h) (Or.inl ⟨by rfl, fun w hw => by obtain z0 := hw; go_simp⟩) hHeld ?_
      simp only [Act.put, List.getElem_toArray, List.getElem_cons_zero, List.getElem_cons_succ, List.setIfInBounds_toArray, List.set_cons_zero, List.set_cons_succ]
      refine wpAnyH_take (i := 1) (v := .int .i64 (i : Int)) rfl (by kernel_rfl) (by kernel_rfl) (by kernel_rfl) (fun _ _ _ h => h) (Or.inl ⟨by rfl, fun w hw => by obtain z0 := hw; go_simp⟩) hHeld ?_
      simp only [Act.put, List.getElem_toArray, List.getElem_cons_zero, List.getElem_cons_succ, List.setIfInBounds_toArray, List.set_cons_zero, List.set_cons_succ]
      refine wpAnyH_take (i := 2) (v := .string (s.extract 0 i)) rfl (by kernel_rfl) (by kernel_rfl) (by kernel_rfl) (fun _ _ _ h => h) (Or.inl ⟨by rfl, fun w hw => by obtain z0 := hw; go_simp⟩) hHeld ?_
      simp only [Act.put, List.getElem_toArray, List.getElem_cons_zero, List.getElem_cons_succ, List.setIfInBounds_toArray, List.set_cons_zero, List.set_cons_succ]
      refine wpAnyH_take (i := 3) (v := .string s) rfl (by kernel_rfl) (by kernel_rfl) (by kernel_rfl) (fun _ _ _ h => h) (Or.inl ⟨by rfl, fun w hw => by obtain z0 := hw; go_simp⟩) hHeld ?_
      simp only [Act.put, List.getElem_toArray, List.getElem_cons_zero, List.getElem_cons_succ, List.setIfInBounds_toArray, List.set_cons_zero, List.set_cons_succ]
      refine wpAnyH_take (i := 4) (v := .int .i64 (i : Int)) rfl (by kernel_rfl) (by kernel_rfl) (by kernel_rfl) (fun _ _ _ h => h) (Or.inl ⟨by rfl, fun w hw => by obtain z0 := hw; go_simp⟩) hHeld ?_
      simp only [Act.put, List.getElem_toArray, List.getElem_cons_zero, List.getElem_cons_succ, List.setIfInBounds_toArray, List.set_cons_zero, List.set_cons_succ]
      refine wpAnyH_take (i := 5) (v := .int .i64 ((i : Int) + 1)) rfl (by kernel_rfl) (by kernel_rfl) (by kernel_rfl) (fun _ _ _ h => h) (Or.inl ⟨by rfl, fun w hw => by obtain z0 := hw; go_simp⟩) hHeld ?_
      simp only [Act.put, List.getElem_toArray, List.getElem_cons_zero, List.getElem_cons_succ, List.setIfInBounds_toArray, List.set_cons_zero, List.set_cons_succ]
      refine wpAnyH_take (i := 6) (v := .string (s.extract (i + 1) s.size)) rfl (by kernel_rfl) (by kernel_rfl) (by kernel_rfl) (fun _ _ _ h => h) (Or.inl ⟨by rfl, fun w hw => by obtain z0 := hw; go_simp⟩) hHeld ?_
      simp only [Act.put, List.getElem_toArray, List.getElem_cons_zero, List.getElem_cons_succ, List.setIfInBounds_toArray, List.set_cons_zero, List.set_cons_succ]
      refine wpAnyH_take (i := 7) (v := .string (s.extract 0 i ++ s.extract (i + 1) s.size)) rfl (by kernel_rfl) (by kernel_rfl) (by kernel_rfl) (fun _ _ _ h => h) (Or.inl ⟨by rfl, fun w hw => by obtain z0 := hw; go_simp⟩) hHeld ?_
      simp only [Act.put, List.getElem_toArray, List.getElem_cons_zero, List.getElem_cons_succ, List.setIfInBounds_toArray, List.set_cons_zero, List.set_cons_succ]
      refine wpAnyH_ready (rs := [8]) (by kernel_rfl) (by simp) ?_
      refine AllReadyH.cons rfl (fun K hK => ?_) AllReadyH.nil
      go_simp
      refine hK.out _ _ hHeld (fun _ => ?_)
      clear hK K
      try simp only [Act.put, List.getElem_toArray, List.getElem_cons_zero, List.getElem_cons_succ, List.setIfInBounds_toArray, List.set_cons_zero, List.set_cons_succ]
      refine wpAnyH_done (by kernel_rfl) ?_ _
      go_wp2
      go_ret
      exact ⟨⟨_, rfl, by simp only [ByteArray.size_append]; omega⟩, ⟨p + 1 + 1, by omega, by omega, HR.out.drew⟩, grown_trans HG.out (grown_of_below (some R) (Below.refl _ _).drew)⟩
    · have hl' : ¬ (i : Int) < (s.size : Int) := by omega
      have z2 : ¬ (9223372036854775807 < s.size + (s.size - i)) := by omega
      have z3 : ¬ (9223372036854775807 < s.size + (s.extract i s.size).size) := by omega
      go_wp2
      go_ret
      exact ⟨⟨_, rfl, by rw [ByteArray.size_append]; omega⟩, ⟨p + 1 + 1, by omega, by omega, HR.out⟩, HG.out⟩
  · by_cases hl : i < s.size
    · have hl' : (i : Int) < (s.size : Int) := by omega
      have hl2 : (i : Int) + 1 ≤ (s.size : Int) := by omega
      have hl0 : ¬ ((i : Int) + 1 < 0) := by omega
      have e2 : (s.extract (i + 1) s.size).size = s.size - (i + 1) := by simp only [ByteArray.size_extract]; omega
      have gb := getbB s i hl
      obtain ⟨B, hB⟩ : ∃ B : Nat, B = (s.data.toList.getD i 0).toNat := ⟨_, rfl⟩
      rw [← hB] at gb
      have hB1 : B ≤ 255 := by rw [hB]; have := UInt8.toNat_lt (s.data.toList.getD i 0); omega
      clear hB
      have hBw : IntKind.i64.wrap (B : Int) = (B : Int) := wrap_i64_id _ (by omega) (by omega)
      go_wp2_with fail
      refine wp_region_held_drew (S := fun w' => True) (by kernel_rfl) (trivial) (fun hHeld => ?_)
      refine wpAnyH_take (i := 0) (v := .string s) rfl (by kernel_rfl) (by kernel_rfl) (by kernel_rfl) (fun _ _ _ h => h) (Or.inl ⟨by rfl, fun w hw => by obtain z0 := hw; go_simp⟩) hHeld ?_
      simp only [Act.put, List.getElem_toArray, List.getElem_cons_zero, List.getElem_cons_succ, List.setIfInBounds_toArray, List.set_cons_zero, List.set_cons_succ]
      refine wpAnyH_take (i := 1) (v := .int .i64 (i : Int)) rfl (by kernel_rfl) (by kernel_rfl) (by kernel_rfl) (fun _ _ _ h => h) (Or.inl ⟨by rfl, fun w hw => by obtain z0 := hw; go_simp⟩) hHeld ?_
      simp only [Act.put, List.getElem_toArray, List.getElem_cons_zero, List.getElem_cons_succ, List.setIfInBounds_toArray, List.set_cons_zero, List.set_cons_succ]
      refine wpAnyH_take (i := 2) (v := .string (s.extract 0 i)) rfl (by kernel_rfl) (by kernel_rfl) (by kernel_rfl) (fun _ _ _ h => h) (Or.inl ⟨by rfl, fun w hw => by obtain z0 := hw; go_simp⟩) hHeld ?_
      simp only [Act.put, List.getElem_toArray, List.getElem_cons_zero, List.getElem_cons_succ, List.setIfInBounds_toArray, List.set_cons_zero, List.set_cons_succ]
      refine wpAnyH_take (i := 3) (v := .string s) rfl (by kernel_rfl) (by kernel_rfl) (by kernel_rfl) (fun _ _ _ h => h) (Or.inl ⟨by rfl, fun w hw => by obtain z0 := hw; go_simp⟩) hHeld ?_
      simp only [Act.put, List.getElem_toArray, List.getElem_cons_zero, List.getElem_cons_succ, List.setIfInBounds_toArray, List.set_cons_zero, List.set_cons_succ]
      refine wpAnyH_take (i := 4) (v := .int .i64 (i : Int)) rfl (by kernel_rfl) (by kernel_rfl) (by kernel_rfl) (fun _ _ _ h => h) (Or.inl ⟨by rfl, fun w hw => by obtain z0 := hw; go_simp⟩) hHeld ?_
      simp only [Act.put, List.getElem_toArray, List.getElem_cons_zero, List.getElem_cons_succ, List.setIfInBounds_toArray, List.set_cons_zero, List.set_cons_succ]
      refine wpAnyH_take (i := 5) (v := .int .u8 (B : Int)) rfl (by kernel_rfl) (by kernel_rfl) (by kernel_rfl) (fun _ _ _ h => h) (Or.inl ⟨by rfl, fun w hw => by obtain z0 := hw; go_simp⟩) hHeld ?_
      simp only [Act.put, List.getElem_toArray, List.getElem_cons_zero, List.getElem_cons_succ, List.setIfInBounds_toArray, List.set_cons_zero, List.set_cons_succ]
      refine wpAnyH_take (i := 6) (v := .int .i64 (B : Int)) rfl (by kernel_rfl) (by kernel_rfl) (by kernel_rfl) (fun _ _ _ h => h) (Or.inl ⟨by rfl, fun w hw => by obtain z0 := hw; go_simp⟩) hHeld ?_
      simp only [Act.put, List.getElem_toArray, List.getElem_cons_zero, List.getElem_cons_succ, List.setIfInBounds_toArray, List.set_cons_zero, List.set_cons_succ]
      refine wpAnyH_take (i := 7) (v := .pointer (some ⟨R, 0, none⟩)) rfl (by kernel_rfl) (by kernel_rfl) (by kernel_rfl) (fun _ _ _ h => h) (Or.inl ⟨by rfl, fun w hw => by obtain z0 := hw; go_simp⟩) hHeld ?_
      simp only [Act.put, List.getElem_toArray, List.getElem_cons_zero, List.getElem_cons_succ, List.setIfInBounds_toArray, List.set_cons_zero, List.set_cons_succ]
      refine wpAnyH_take (i := 16) (v := .string s) rfl (by kernel_rfl) (by kernel_rfl) (by kernel_rfl) (fun _ _ _ h => h) (Or.inl ⟨by rfl, fun w hw => by obtain z0 := hw; go_simp⟩) hHeld ?_
      simp only [Act.put, List.getElem_toArray, List.getElem_cons_zero, List.getElem_cons_succ, List.setIfInBounds_toArray, List.set_cons_zero, List.set_cons_succ]
      refine wpAnyH_take (i := 17) (v := .int .i64 (i : Int)) rfl (by kernel_rfl) (by kernel_rfl) (by kernel_rfl) (fun _ _ _ h => h) (Or.inl ⟨by rfl, fun w hw => by obtain z0 := hw; go_simp⟩) hHeld ?_
      simp only [Act.put, List.getElem_toArray, List.getElem_cons_zero, List.getElem_cons_succ, List.setIfInBounds_toArray, List.set_cons_zero, List.set_cons_succ]
      refine wpAnyH_take (i := 18) (v := .int .i64 ((i : Int) + 1)) rfl (by kernel_rfl) (by kernel_rfl) (by kernel_rfl) (fun _ _ _ h => h) (Or.inl ⟨by rfl, fun w hw => by obtain z0 := hw; go_simp⟩) hHeld ?_
      simp only [Act.put, List.getElem_toArray, List.getElem_cons_zero, List.getElem_cons_succ, List.setIfInBounds_toArray, List.set_cons_zero, List.set_cons_succ]
      refine wpAnyH_take (i := 19) (v := .string (s.extract (i + 1) s.size)) rfl (by kernel_rfl) (by kernel_rfl) (by kernel_rfl) (fun _ _ _ h => h) (Or.inl ⟨by rfl, fun w hw => by obtain z0 := hw; go_simp⟩) hHeld ?_
      simp only [Act.put, List.getElem_toArray, List.getElem_cons_zero, List.getElem_cons_succ, List.setIfInBounds_toArray, List.set_cons_zero, List.set_cons_succ]
      refine wpAnyH_ready (rs := [8]) (by kernel_rfl) (by simp) ?_
      refine AllReadyH.cons rfl (fun K hK => ?_) AllReadyH.nil
      refine step_call (by rfl) 36 #[.pointer (some ⟨R, 0, none⟩), .int .i64 8] (by go_simp) (pick_r R a n c (p + 1 + 1) 8 _ HR.out.drew (by omega)) ?_
      rintro e w3 ⟨⟨x', rfl, x0, x1⟩, hr3, hg3'⟩
      refine ⟨_, rfl, ?_⟩
      have hg3 := grown_trans (grown_trans HG.out (grown_of_below (some R) (Below.refl _ _).drew)) hg3'
      obtain ⟨x, rfl⟩ : ∃ k : Nat, x' = (k : Int) := ⟨x'.toNat, by omega⟩
      have hx8 : x < 8 := by omega
      clear x1 x0 hg3'
      have hxw : IntKind.u64.wrap (x : Int) = (x : Int) := by simp [IntKind.wrap, IntKind.bits, IntKind.signed]; omega
      obtain ⟨S1, hS1, hS2, hS3⟩ := shl_small x hx8
      have hxr := bits_xor_i64_nat B S1 (by omega) (by omega)
      obtain ⟨Y, hY⟩ : ∃ Y : Int, IntKind.u8.wrap ((B ^^^ S1 : Nat) : Int) = Y := ⟨_, rfl⟩
      refine hK.out _ _ hHeld (fun _ => ?_)
      clear hK K
      try simp only [Act.put, List.getElem_toArray, List.getElem_cons_zero, List.getElem_cons_succ, List.setIfInBounds_toArray, List.set_cons_zero, List.set_cons_succ]
      refine wpAnyH_take (i := 9) (v := .int .u64 (x : Int)) rfl (by kernel_rfl) (by kernel_rfl) (by kernel_rfl) (fun _ _ _ h => h) (Or.inl ⟨by rfl, fun w hw => by obtain z0 := hw; go_simp⟩) hHeld ?_
      simp only [Act.put, List.getElem_toArray, List.getElem_cons_zero, List.getElem_cons_succ, List.setIfInBounds_toArray, List.set_cons_zero, List.set_cons_succ]
      refine wpAnyH_take (i := 10) (v := .int .i64 (S1 : Int)) rfl (by kernel_rfl) (by kernel_rfl) (by kernel_rfl) (fun _ _ _ h => h) (Or.inl ⟨by rfl, fun w hw => by obtain z0 := hw; go_simp⟩) hHeld ?_
      simp only [Act.put, List.getElem_toArray, List.getElem_cons_zero, List.getElem_cons_succ, List.setIfInBounds_toArray, List.set_cons_zero, List.set_cons_succ]
      refine wpAnyH_take (i := 11) (v := .int .i64 ((B ^^^ S1 : Nat) : Int)) rfl (by kernel_rfl) (by kernel_rfl) (by kernel_rfl) (fun _ _ _ h => h) (Or.inl ⟨by rfl, fun w hw => by obtain z0 := hw; go_simp⟩) hHeld ?_
      simp only [Act.put, List.getElem_toArray, List.getElem_cons_zero, List.getElem_cons_succ, List.setIfInBounds_toArray, List.set_cons_zero, List.set_cons_succ]
      refine wpAnyH_take (i := 12) (v := .int .u8 Y) rfl (by kernel_rfl) (by kernel_rfl) (by kernel_rfl) (fun _ _ _ h => h) (Or.inl ⟨by rfl, fun w hw => by obtain z0 := hw; go_simp⟩) hHeld ?_
      simp only [Act.put, List.getElem_toArray, List.getElem_cons_zero, List.getElem_cons_succ, List.setIfInBounds_toArray, List.set_cons_zero, List.set_cons_succ]
      refine wpAnyH_ready (rs := [13]) (by kernel_rfl) (by simp) ?_
      refine AllReadyH.cons rfl (fun K hK => ?_) AllReadyH.nil
      go_simp
      have hb4 : Below w3.heap.size w3 (w3.alloc (.cells #[.int .u8 Y] 5)) := below_nw _ _
      have r4 : Row (w3.alloc (.cells #[.int .u8 Y] 5)) w3.heap.size [.int .u8 Y] := row_new _ _ _
      have hr4 := hr3.below hb4
      have hg4 := grown_trans hg3 (grown_of_below (some R) hb4)
      have hcv := bytes_1 _ _ _ (r4.cell 0 _ rfl)
      have hz1 : (strOfNums [Y]).size = 1 := by rw [strOfNums_size]; rfl
      obtain ⟨T, hT⟩ : ∃ T, T = strOfNums [Y] := ⟨_, rfl⟩
      rw [← hT] at hcv hz1
      clear hT
      obtain ⟨w4, e_w4⟩ : ∃ xw, xw = w3.alloc (.cells #[.int .u8 Y] 5) := ⟨_, rfl⟩
      rw [← e_w4] at hb4 r4 hr4 hg4 hcv ⊢
      clear e_w4
      have z3 : ¬ (9223372036854775807 < (s.extract 0 i).size + T.size) := by omega
      have z5 : ¬ (9223372036854775807 < (s.extract 0 i ++ T).size + (s.extract (i + 1) s.size).size) := by rw [ByteArray.size_append]; omega
      have z2 : ¬ (9223372036854775807 < i + 1) := by omega
      have z6 : ¬ (9223372036854775807 < i + 1 + (s.size - (i + 1))) := by omega
      refine hK.out _ _ hHeld (fun _ => ?_)
      clear hK K
      try simp only [Act.put, List.getElem_toArray, List.getElem_cons_zero, List.getElem_cons_succ, List.setIfInBounds_toArray, List.set_cons_zero, List.set_cons_succ]
      refine wpAnyH_ready (rs := [14]) (by kernel_rfl) (by simp) ?_
      refine AllReadyH.cons rfl (fun K hK => ?_) AllReadyH.nil
      have _c := hcv
      go_simp
      refine hK.out _ _ hHeld (fun _ => ?_)
      clear hK K
      try simp only [Act.put, List.getElem_toArray, List.getElem_cons_zero, List.getElem_cons_succ, List.setIfInBounds_toArray, List.set_cons_zero, List.set_cons_succ]
      refine wpAnyH_take (i := 15) (v := .string (s.extract 0 i ++ T)) rfl (by kernel_rfl) (by kernel_rfl) (by kernel_rfl) (fun _ _ _ h => h) (Or.inl ⟨by rfl, fun w hw => by obtain z0 := hw; go_simp⟩) hHeld ?_
      simp only [Act.put, List.getElem_toArray, List.getElem_cons_zero, List.getElem_cons_succ, List.setIfInBounds_toArray, List.set_cons_zero, List.set_cons_succ]
      refine wpAnyH_take (i := 20) (v := .string (s.extract 0 i ++ T ++ s.extract (i + 1) s.size)) rfl (by kernel_rfl) (by kernel_rfl) (by kernel_rfl) (fun _ _ _ h => h) (Or.inl ⟨by rfl, fun w hw => by obtain z0 := hw; go_simp⟩) hHeld ?_
      simp only [Act.put, List.getElem_toArray, List.getElem_cons_zero, List.getElem_cons_succ, List.setIfInBounds_toArray, List.set_cons_zero, List.set_cons_succ]
      refine wpAnyH_ready (rs := [21]) (by kernel_rfl) (by simp) ?_
      refine AllReadyH.cons rfl (fun K hK => ?_) AllReadyH.nil
      go_simp
      refine hK.out _ _ hHeld (fun _ => ?_)
      clear hK K
      try simp only [Act.put, List.getElem_toArray, List.getElem_cons_zero, List.getElem_cons_succ, List.setIfInBounds_toArray, List.set_cons_zero, List.set_cons_succ]
      refine wpAnyH_done (by kernel_rfl) ?_ _
      go_wp2
      go_ret
      exact ⟨⟨_, rfl, by simp only [ByteArray.size_append]; omega⟩, ⟨p + 1 + 1 + 1, by omega, by omega, hr4⟩, hg4⟩
    · have hl' : ¬ (i : Int) < (s.size : Int) := by omega
      have z2 : ¬ (9223372036854775807 < s.size + (s.size - i)) := by omega
      have z3 : ¬ (9223372036854775807 < s.size + (s.extract i s.size).size) := by omega
      go_wp2
      go_ret
      exact ⟨⟨_, rfl, by rw [ByteArray.size_append]; omega⟩, ⟨p + 1 + 1, by omega, by omega, HR.out⟩, HG.out⟩
  · have z2 : ¬ (9223372036854775807 < s.size + (s.size - i)) := by omega
    have z3 : ¬ (9223372036854775807 < s.size + (s.extract i s.size).size) := by omega
    go_wp2
    go_ret
    exact ⟨⟨_, rfl, by rw [ByteArray.size_append]; omega⟩, ⟨p + 1 + 1, by omega, by omega, HR.out⟩, HG.out⟩
end Go.Proofs.Ytnmaknnnmjfhkac
