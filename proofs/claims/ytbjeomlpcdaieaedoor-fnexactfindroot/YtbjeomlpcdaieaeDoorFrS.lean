import Derived.Test.YtbjeomlpcdaieaeDoorFrP
import Derived.Test.YtbjeomlpcdaieaeDoorRpT
import Derived.Test.YtbjeomlpcdaieaeDoorB4
import Derived.Test.YtbjeomlpcdaieaeDoorWr
namespace Go.Proofs.YtbjeomlpcdaieaeDoor
open Go.RowKit
set_option maxRecDepth 4000
set_option linter.unusedVariables false
set_option linter.unusedSimpArgs false
theorem pt_parts (p : ByteArray) (h : p.size = 5) : ((p.data.toList.getD 0 0).toNat : Int) = ptH p ∧ numOf (nums (p.extract 1 5)) = ptF p ∧ 0 ≤ ptH p ∧ ptH p ≤ 255 ∧ 0 ≤ ptF p ∧ ptF p ≤ 4294967295 := by
  have hl : (nums p).length = 5 := by rw [nums_length, h]
  have hd : p.data.toList.length = 5 := h
  have rg := nums_range' p
  have b1 := numOf_rng 1 ((nums p).take 1) (by simp; omega) (fun y hy => rg y (List.mem_of_mem_take hy))
  have b2 := numOf_rng 4 (((nums p).drop 1).take 4) (by simp; omega) (fun y hy => rg y (List.mem_of_mem_drop (List.mem_of_mem_take hy)))
  refine ⟨?_, ?_, b1.1, by have := b1.2; unfold ptH; omega, b2.1, by have := b2.2; unfold ptF; omega⟩
  · unfold ptH nums
    rw [← List.map_take]
    have e := List.drop_eq_getElem_cons (l := p.data.toList) (i := 0) (by omega)
    rw [List.drop_zero] at e
    rw [e]
    simp only [List.take_succ_cons, List.take_zero, List.map_cons, List.map_nil, numOf_one]
    rfl
  · unfold ptF
    rw [nums_extract, List.take_of_length_le (by omega)]
    rw [List.take_of_length_le (l := (nums p).drop 1) (by simp; omega)]
theorem lread_b (t : ByteArray) (L : Int) (w : World) (hs : t.size ≤ 4) (hL : L = numOf (nums t)) : Calls Tryd.prog 83 #[.string t] w fun e w' => e = .returned (.int .i64 L) ∧ Below w.heap.size w w' :=
  (lread' t L w hs hL).mono fun e w' h => ⟨h.1, by rw [h.2]; exact Below.refl _ _⟩
set_option maxHeartbeats 2000000 in
theorem l5at_no (s : ByteArray) (a n : Int) (w : World) (k l m : Int) (p : ByteArray) (b : Bool) (HS : ∀ wx, Calls Tryd.prog 63 #[.string s, .int .i64 n] wx fun e w' => e = .returned (.tuple #[pageV k l m p, .bool b]) ∧ Below wx.heap.size wx w') (hps : p.size ≤ 64) (hno : b = false ∨ p.size ≠ 5) (HRO : Hid (rootOf s a n = none)) : Calls Tryd.prog 57 #[.string s, .int .i64 a, .int .i64 n] w fun e w' => (∃ t h f l b, e = .returned (.tuple #[rootV t h f l, .bool b]) ∧ rootOf s a n = if b = true then some (t, h, f, l) else none) ∧ Below w.heap.size w w' := by
  have hb0 : ∀ o, Below w.heap.size w (w.alloc o) := fun o => (Below.refl _ _).alloc (Nat.le_refl _) _
  cases b with
  | false =>
    · clear hno
      go_enter Tryd.func57, Tryd.ntmps57
      go_wp2_with (go_at_call 63; refine (HS _).mono ?_; rintro e w2 ⟨rfl, hb2⟩; have HB2 := hid0 ((B4.new w (.int .i64 0) (.int .i64 0) (.int .i64 0) (.int .i64 0) _).below hb2); have HBB := hid0 ((hb0 _).trans (hb2.mono (by simp))); clear hb2; have c0 := fun o => (HB2.out.alloc o).c0; have c1 := fun o => (HB2.out.alloc o).c1; have c2 := fun o => (HB2.out.alloc o).c2; have c3 := fun o => (HB2.out.alloc o).c3; have f0 := fun o => (HB2.out.alloc o).f0; have f1 := fun o => (HB2.out.alloc o).f1; have f2 := fun o => (HB2.out.alloc o).f2; have f3 := fun o => (HB2.out.alloc o).f3)
      refine bodyPost_ret (v := .tuple #[rootV 0 0 0 0, .bool false]) (by simp [results, Tryd.results57, go_sem, c0, c1, c2, c3]) rfl ⟨⟨0, 0, 0, 0, false, rfl, by rw [HRO.out]; rfl⟩, ?_⟩
      exact ((((HBB.out.alloc HBB.out.size _).setCell (Nat.le_refl _) _).setCell (Nat.le_refl _) _).setCell (Nat.le_refl _) _).setCell (Nat.le_refl _) _
  | true =>
    · have h5' : ((p.size : Int) != 5) = true := by
        have h := hno.resolve_left (by simp)
        simp
        omega
      clear hno
      go_enter Tryd.func57, Tryd.ntmps57
      go_wp2_with (go_at_call 63; refine (HS _).mono ?_; rintro e w2 ⟨rfl, hb2⟩; have HB2 := hid0 ((B4.new w (.int .i64 0) (.int .i64 0) (.int .i64 0) (.int .i64 0) _).below hb2); have HBB := hid0 ((hb0 _).trans (hb2.mono (by simp))); clear hb2; have c0 := fun o => (HB2.out.alloc o).c0; have c1 := fun o => (HB2.out.alloc o).c1; have c2 := fun o => (HB2.out.alloc o).c2; have c3 := fun o => (HB2.out.alloc o).c3; have f0 := fun o => (HB2.out.alloc o).f0; have f1 := fun o => (HB2.out.alloc o).f1; have f2 := fun o => (HB2.out.alloc o).f2; have f3 := fun o => (HB2.out.alloc o).f3)
      refine bodyPost_ret (v := .tuple #[rootV 0 0 0 0, .bool false]) (by simp [results, Tryd.results57, go_sem, c0, c1, c2, c3]) rfl ⟨⟨0, 0, 0, 0, false, rfl, by rw [HRO.out]; rfl⟩, ?_⟩
      exact ((((HBB.out.alloc HBB.out.size _).setCell (Nat.le_refl _) _).setCell (Nat.le_refl _) _).setCell (Nat.le_refl _) _).setCell (Nat.le_refl _) _

set_option maxHeartbeats 40000000 in
theorem l5at_yes (s : ByteArray) (a n : Int) (w : World) (k l m : Int) (p : ByteArray) (hR : rpRes s n = some (k, l, m, p)) (HS : ∀ wx, Calls Tryd.prog 63 #[.string s, .int .i64 n] wx fun e w' => e = .returned (.tuple #[pageV k l m p, .bool true]) ∧ Below wx.heap.size wx w') (h5 : p.size = 5) : Calls Tryd.prog 57 #[.string s, .int .i64 a, .int .i64 n] w fun e w' => (∃ t h f l b, e = .returned (.tuple #[rootV t h f l, .bool b]) ∧ rootOf s a n = if b = true then some (t, h, f, l) else none) ∧ Below w.heap.size w w' := by
  have hb0 : ∀ o, Below w.heap.size w (w.alloc o) := fun o => (Below.refl _ _).alloc (Nat.le_refl _) _
  obtain ⟨_, _, hm1, hm2, hl1, hl2, hpz⟩ := rpRes_some hR
  have HRO : Hid (rootOf s a n = if rtForm m (ptH p) (ptF p) l n = s ∧ m % 2 = a then some (m, ptH p, ptF p, l) else none) := by
    show _ = _
    unfold rootOf
    rw [hR]
    simp [h5]
  clear hR
  obtain ⟨e0, e1, g0, g1, g2, g3⟩ := pt_parts p h5
  have gb := getb p 0 (by omega)
  obtain ⟨H, hH⟩ : ∃ H : Nat, H = (p.data.toList.getD 0 0).toNat := ⟨_, rfl⟩
  rw [← hH] at e0 gb
  rw [← e0] at g0 g1
  obtain ⟨F, HF⟩ : ∃ F, Hid (F = ptF p) := ⟨_, hid0 rfl⟩
  rw [← HF.out] at g2 g3 HRO e1
  rw [← e0] at HRO
  have h5' : (p.size : Int) = 5 := by omega
  have z1 : (p.extract 1 5).size ≤ 4 := by simp only [ByteArray.size_extract]; omega
  have hHw : IntKind.i64.wrap (H : Int) = (H : Int) := by simp [IntKind.wrap, IntKind.bits, IntKind.signed]; omega
  have h0 : 0 < p.size := by omega
  obtain ⟨FM, HFM⟩ : ∃ FM, Hid (FM = rtForm m (H : Int) F l n) := ⟨_, hid0 rfl⟩
  rw [← HFM.out] at HRO
  have HRT := fun wx => rootpage_s_any m (H : Int) F l n wx
  rw [← HFM.out] at HRT
  have E1 := hid0 e1
  clear hH e1 e0 HF
  go_enter Tryd.func57, Tryd.ntmps57
  go_wp2_with (go_at_call 63; refine (HS _).mono ?_; rintro e w2 ⟨rfl, hb2⟩; have HB2 := hid0 ((B4.new w (.int .i64 0) (.int .i64 0) (.int .i64 0) (.int .i64 0) _).below hb2); have HBB := hid0 ((hb0 _).trans (hb2.mono (by simp))); clear hb2; have c0 := fun o => (HB2.out.alloc o).c0; have c1 := fun o => (HB2.out.alloc o).c1; have c2 := fun o => (HB2.out.alloc o).c2; have c3 := fun o => (HB2.out.alloc o).c3; have f0 := fun o => (HB2.out.alloc o).f0; have f1 := fun o => (HB2.out.alloc o).f1; have f2 := fun o => (HB2.out.alloc o).f2; have f3 := fun o => (HB2.out.alloc o).f3)
  have hwp := (B4.new w2 (.int .i64 k) (.int .i64 l) (.int .i64 m) (.string p) 42)
  have hrb := HB2.out.alloc (.cells #[.int .i64 k, .int .i64 l, .int .i64 m, .string p] 42)
  have hbb := HBB.out.alloc HBB.out.size (.cells #[.int .i64 k, .int .i64 l, .int .i64 m, .string p] 42)
  have hBlt : w.heap.size < w2.heap.size := HB2.out.lt
  obtain ⟨wp, HWP⟩ : ∃ wp, wp = w2.alloc (.cells #[.int .i64 k, .int .i64 l, .int .i64 m, .string p] 42) := ⟨_, rfl⟩
  have hsz : wp.heap.size = w2.heap.size + 1 := by rw [HWP]; simp
  rw [← HWP] at hwp hrb hbb ⊢
  clear c0 c1 c2 c3 f0 f1 f2 f3 HWP HB2 HBB
  have HT : Hid (∀ w', Below wp.heap.size wp w' → w'.cell? ⟨w2.heap.size, 1, none⟩ = some (.int .i64 l) ∧ w'.cell? ⟨w2.heap.size, 2, none⟩ = some (.int .i64 m) ∧ w'.cell? ⟨w2.heap.size, 3, none⟩ = some (.string p) ∧ Below wp.heap.size wp w') := fun w' hb => ⟨(hwp.below hb).c1, (hwp.below hb).c2, (hwp.below hb).c3, hb⟩
  have HRB := hid0 hrb
  have HBB := hid0 hbb
  clear hrb hbb hwp
  refine (fun HG : Wr ?G => ?main) ⟨?pf⟩
  case main =>
    go_region_held3 (fun w' => w'.cell? ⟨w2.heap.size, 1, none⟩ = some (.int .i64 l) ∧ w'.cell? ⟨w2.heap.size, 2, none⟩ = some (.int .i64 m) ∧ w'.cell? ⟨w2.heap.size, 3, none⟩ = some (.string p) ∧ Below wp.heap.size wp w')
      (first | assumption | exact HT.out _ ((Below.refl _ _).drew) | exact HT.out _ (((Below.refl _ _).drew).alloc (Nat.le_refl _) _) | exact HT.out _ (((Below.refl _ _).alloc (Nat.le_refl _) _).drew) | exact HT.out _ ((Below.refl _ _).alloc (Nat.le_refl _) _))
      (first | (go_at_call 83; refine (lread' (p.extract 1 5) F _ z1 E1.out.symm).mono ?_; rintro e w6 ⟨rfl, rfl⟩))
    all_goals exact HG.out
  have hrb1 := (B4.new wp (.int .i64 m) (.int .i64 (H : Int)) (.int .i64 F) (.int .i64 l) 49).drew
  have hbs : Below wp.heap.size wp (wp.alloc (.cells #[.int .i64 m, .int .i64 (H : Int), .int .i64 F, .int .i64 l] 49)).drew := ((Below.refl _ _).alloc (Nat.le_refl _) _).drew
  have hsz2 : (wp.alloc (.cells #[.int .i64 m, .int .i64 (H : Int), .int .i64 F, .int .i64 l] 49)).drew.heap.size = w2.heap.size + 2 := by simp [hsz]
  obtain ⟨wq, HWQ⟩ : ∃ wq, wq = (wp.alloc (.cells #[.int .i64 m, .int .i64 (H : Int), .int .i64 F, .int .i64 l] 49)).drew := ⟨_, rfl⟩
  rw [hsz] at hrb1
  rw [← HWQ] at hrb1 hbs hsz2 ⊢
  clear HWQ HT
  have HRB1 := hid0 (HRB.out.below hbs)
  have HBB1 := hid0 (HBB.out.trans (hbs.mono (by have := HBB.out.size; omega)))
  clear hbs HRB HBB
  have HT : Hid (∀ w', Below wq.heap.size wq w' → w'.cell? ⟨w2.heap.size + 1, 0, none⟩ = some (.int .i64 m) ∧ w'.cell? ⟨w2.heap.size + 1, 1, none⟩ = some (.int .i64 (H : Int)) ∧ w'.cell? ⟨w2.heap.size + 1, 2, none⟩ = some (.int .i64 F) ∧ w'.cell? ⟨w2.heap.size + 1, 3, none⟩ = some (.int .i64 l) ∧ Below wq.heap.size wq w') := fun w' hb => ⟨(hrb1.below hb).c0, (hrb1.below hb).c1, (hrb1.below hb).c2, (hrb1.below hb).c3, hb⟩
  have HQ1 := hid0 hrb1
  have q0 := hrb1.c0
  have q1 := hrb1.c1
  have q2 := hrb1.c2
  have q3 := hrb1.c3
  clear hrb1
  have hne1 : ¬ (w.heap.size = w2.heap.size + 1) := by have := hBlt; omega
  have hne2 : ¬ (w2.heap.size + 1 = w.heap.size) := by have := hBlt; omega
  have hRc := HRB1.out
  have c0 := hRc.c0
  have c1 := hRc.c1
  have c2 := hRc.c2
  have c3 := hRc.c3
  have f0 := hRc.f0
  have f1 := hRc.f1
  have f2 := hRc.f2
  have f3 := hRc.f3
  clear hRc
  by_cases hFs : FM = s
  · by_cases ha : m % 2 = a
    · have ht : m.tmod 2 = a := by rw [Int.tmod_eq_emod_of_nonneg (by omega)]; exact ha
      have HRO2 : Hid (rootOf s a n = some (m, (H : Int), F, l)) := by show _ = _; rw [HRO.out, if_pos ⟨hFs, ha⟩]
      have HFS := hid0 hFs
      clear hFs
      rw [HFS.out] at HRT
      go_wp2_with fail
      go_region_law (first | (refine step_call (by rfl) 84 #[rootV m (H : Int) F l, .int .i64 n] (by go_simp) (HRT _) ?_; rintro e w7 ⟨rfl, hb7⟩; refine ⟨_, rfl, ?_⟩; obtain ⟨r0, r1, r2, r3, _⟩ := HT.out _ (((Below.refl _ _).drew).trans hb7); have hR7 := HRB1.out.drew.below hb7; have HB7 := hid0 (HBB1.out.drew.trans (hb7.mono HBB1.out.drew.size)); clear hb7; have c0 := hR7.c0; have c1 := hR7.c1; have c2 := hR7.c2; have c3 := hR7.c3; have f0 := hR7.f0; have f1 := hR7.f1; have f2 := hR7.f2; have f3 := hR7.f3; clear hR7))
      all_goals go_wp2
      all_goals refine bodyPost_ret (v := .tuple #[rootV m (H : Int) F l, .bool true]) (by simp [results, Tryd.results57, go_sem, c0, c1, c2, c3, r0, r1, r2, r3, ht]) rfl ⟨⟨m, (H : Int), F, l, true, rfl, by rw [HRO2.out]; rfl⟩, ?_⟩
      all_goals exact (((HB7.out.setCell (Nat.le_refl _) _).setCell (Nat.le_refl _) _).setCell (Nat.le_refl _) _).setCell (Nat.le_refl _) _
    · have ht : ¬ m.tmod 2 = a := by rw [Int.tmod_eq_emod_of_nonneg (by omega)]; exact ha
      have HRO2 : Hid (rootOf s a n = none) := by show _ = _; rw [HRO.out, if_neg (fun h => ha h.2)]
      have HFS := hid0 hFs
      clear hFs
      rw [HFS.out] at HRT
      go_wp2_with fail
      go_region_law (first | (refine step_call (by rfl) 84 #[rootV m (H : Int) F l, .int .i64 n] (by go_simp) (HRT _) ?_; rintro e w7 ⟨rfl, hb7⟩; refine ⟨_, rfl, ?_⟩; obtain ⟨r0, r1, r2, r3, _⟩ := HT.out _ (((Below.refl _ _).drew).trans hb7); have hR7 := HRB1.out.drew.below hb7; have HB7 := hid0 (HBB1.out.drew.trans (hb7.mono HBB1.out.drew.size)); clear hb7; have c0 := hR7.c0; have c1 := hR7.c1; have c2 := hR7.c2; have c3 := hR7.c3; have f0 := hR7.f0; have f1 := hR7.f1; have f2 := hR7.f2; have f3 := hR7.f3; clear hR7))
      all_goals go_wp2
      all_goals refine bodyPost_ret (v := .tuple #[rootV m (H : Int) F l, .bool false]) (by simp [results, Tryd.results57, go_sem, c0, c1, c2, c3, r0, r1, r2, r3, ht]) rfl ⟨⟨m, (H : Int), F, l, false, rfl, by rw [HRO2.out]; rfl⟩, ?_⟩
      all_goals exact (((HB7.out.setCell (Nat.le_refl _) _).setCell (Nat.le_refl _) _).setCell (Nat.le_refl _) _).setCell (Nat.le_refl _) _
  · have HRO2 : Hid (rootOf s a n = none) := by show _ = _; rw [HRO.out, if_neg (fun h => hFs h.1)]
    have hG : (FM.toList == s.toList) = false := by simp only [beq_eq_false_iff_ne]; intro hh; rw [ByteArray.toList_eq, ByteArray.toList_eq] at hh; exact hFs (ByteArray.ext (Array.ext' hh))
    clear hFs
    clear c0 c1 c2 c3 f0 f1 f2 f3
    go_wp2_with fail
    refine wp_region_held_drew (S := fun w' => w'.cell? ⟨w2.heap.size + 1, 0, none⟩ = some (.int .i64 m) ∧ w'.cell? ⟨w2.heap.size + 1, 1, none⟩ = some (.int .i64 (H : Int)) ∧ w'.cell? ⟨w2.heap.size + 1, 2, none⟩ = some (.int .i64 F) ∧ w'.cell? ⟨w2.heap.size + 1, 3, none⟩ = some (.int .i64 l)) (by kernel_rfl) ⟨q0, q1, q2, q3⟩ (fun hHeld => ?_)
    refine wpAnyH_take (i := 0) (v := rootV m (H : Int) F l) rfl (by kernel_rfl) (by kernel_rfl) (by kernel_rfl) (fun _ _ _ h => h) (Or.inl ⟨by rfl, fun w hw => by obtain ⟨s0, s1, s2, s3⟩ := hw; go_simp⟩) hHeld ?_
    simp only [Act.put, List.setIfInBounds_toArray, List.set_cons_succ, List.set_cons_zero]
    refine wpAnyH_take (i := 1) (v := rootV m (H : Int) F l) rfl (by kernel_rfl) (by kernel_rfl) (by kernel_rfl) (fun _ _ _ h => h) (Or.inl ⟨by rfl, fun w hw => by obtain ⟨s0, s1, s2, s3⟩ := hw; go_simp⟩) hHeld ?_
    simp only [Act.put, List.setIfInBounds_toArray, List.set_cons_succ, List.set_cons_zero]
    refine wpAnyH_take (i := 2) (v := .int .i64 n) rfl (by kernel_rfl) (by kernel_rfl) (by kernel_rfl) (fun _ _ _ h => h) (Or.inl ⟨by rfl, fun w hw => by obtain ⟨s0, s1, s2, s3⟩ := hw; go_simp⟩) hHeld ?_
    simp only [Act.put, List.setIfInBounds_toArray, List.set_cons_succ, List.set_cons_zero]
    refine wpAnyH_take (i := 4) (v := .string s) rfl (by kernel_rfl) (by kernel_rfl) (by kernel_rfl) (fun _ _ _ h => h) (Or.inl ⟨by rfl, fun w hw => by obtain ⟨s0, s1, s2, s3⟩ := hw; go_simp⟩) hHeld ?_
    simp only [Act.put, List.setIfInBounds_toArray, List.set_cons_succ, List.set_cons_zero]
    refine wpAnyH_ready (rs := [3]) (by kernel_rfl) (by simp) ?_
    refine AllReadyH.cons rfl (fun K hK => ?_) AllReadyH.nil
    refine step_call (by rfl) 84 #[rootV m (H : Int) F l, .int .i64 n] (by go_simp) (HRT _) ?_
    rintro e w7 ⟨rfl, hb7⟩
    refine ⟨_, rfl, ?_⟩
    have hR7 := HRB1.out.drew.below hb7
    have hQ7 := HQ1.out.drew.below hb7
    have HB7 := hid0 (HBB1.out.drew.trans (hb7.mono HBB1.out.drew.size))
    clear hb7
    refine hK.out _ _ ⟨hQ7.c0, hQ7.c1, hQ7.c2, hQ7.c3⟩ (fun _ => ?_)
    clear hK K hHeld
    rename_i hHeld
    simp only [Act.put, List.setIfInBounds_toArray, List.set_cons_succ, List.set_cons_zero]
    refine wpAnyH_take (i := 5) (v := .bool false) rfl (by kernel_rfl) (by kernel_rfl) (by kernel_rfl) (fun _ _ _ h => h) (Or.inl ⟨by rfl, fun w hw => by obtain ⟨s0, s1, s2, s3⟩ := hw; go_simp⟩) hHeld ?_
    simp only [Act.put, List.setIfInBounds_toArray, List.set_cons_succ, List.set_cons_zero]
    refine wpAnyH_take (i := 6) (v := .bool false) rfl (by kernel_rfl) (by kernel_rfl) (by kernel_rfl) (fun _ _ _ h => h) (Or.inl ⟨by rfl, fun w hw => by obtain ⟨s0, s1, s2, s3⟩ := hw; go_simp⟩) hHeld ?_
    simp only [Act.put, List.setIfInBounds_toArray, List.set_cons_succ, List.set_cons_zero]
    refine wpAnyH_take (i := 7) (v := undef) rfl (by kernel_rfl) (by kernel_rfl) (by kernel_rfl) (fun _ _ _ h => h) (Or.inr ⟨by kernel_rfl, rfl⟩) hHeld ?_
    simp only [Act.put, List.setIfInBounds_toArray, List.set_cons_succ, List.set_cons_zero]
    refine wpAnyH_take (i := 8) (v := undef) rfl (by kernel_rfl) (by kernel_rfl) (by kernel_rfl) (fun _ _ _ h => h) (Or.inr ⟨by kernel_rfl, rfl⟩) hHeld ?_
    simp only [Act.put, List.setIfInBounds_toArray, List.set_cons_succ, List.set_cons_zero]
    refine wpAnyH_take (i := 9) (v := undef) rfl (by kernel_rfl) (by kernel_rfl) (by kernel_rfl) (fun _ _ _ h => h) (Or.inr ⟨by kernel_rfl, rfl⟩) hHeld ?_
    simp only [Act.put, List.setIfInBounds_toArray, List.set_cons_succ, List.set_cons_zero]
    refine wpAnyH_take (i := 10) (v := undef) rfl (by kernel_rfl) (by kernel_rfl) (by kernel_rfl) (fun _ _ _ h => h) (Or.inr ⟨by kernel_rfl, rfl⟩) hHeld ?_
    simp only [Act.put, List.setIfInBounds_toArray, List.set_cons_succ, List.set_cons_zero]
    refine wpAnyH_take (i := 11) (v := undef) rfl (by kernel_rfl) (by kernel_rfl) (by kernel_rfl) (fun _ _ _ h => h) (Or.inr ⟨by kernel_rfl, rfl⟩) hHeld ?_
    simp only [Act.put, List.setIfInBounds_toArray, List.set_cons_succ, List.set_cons_zero]
    refine wpAnyH_take (i := 12) (v := .bool false) rfl (by kernel_rfl) (by kernel_rfl) (by kernel_rfl) (fun _ _ _ h => h) (Or.inl ⟨by rfl, fun w hw => by obtain ⟨s0, s1, s2, s3⟩ := hw; go_simp⟩) hHeld ?_
    simp only [Act.put, List.setIfInBounds_toArray, List.set_cons_succ, List.set_cons_zero]
    refine wpAnyH_ready (rs := [13]) (by kernel_rfl) (by simp) ?_
    refine AllReadyH.cons rfl (fun K hK => ?_) AllReadyH.nil
    rw [if_pos (by kernel_rfl)]
    have c0 := hR7.c0
    have c1 := hR7.c1
    have c2 := hR7.c2
    have c3 := hR7.c3
    have f0 := hR7.f0
    have f1 := hR7.f1
    have f2 := hR7.f2
    have f3 := hR7.f3
    unfold Oper.wp
    go_simp
    have far : ∀ i, ((((w7.setCell ⟨w.heap.size, 0, none⟩ (.int .i64 m)).setCell ⟨w.heap.size, 1, none⟩ (.int .i64 (H : Int))).setCell ⟨w.heap.size, 2, none⟩ (.int .i64 F)).setCell ⟨w.heap.size, 3, none⟩ (.int .i64 l)).cell? ⟨w2.heap.size + 1, i, none⟩ = w7.cell? ⟨w2.heap.size + 1, i, none⟩ := fun i => by
      rw [World.cell?_setCell_far _ _ _ _ hne1, World.cell?_setCell_far _ _ _ _ hne1, World.cell?_setCell_far _ _ _ _ hne1, World.cell?_setCell_far _ _ _ _ hne1]
    refine hK.out _ _ ⟨(far _).trans hQ7.c0, (far _).trans hQ7.c1, (far _).trans hQ7.c2, (far _).trans hQ7.c3⟩ (fun _ => ?_)
    clear hK K hHeld far
    rename_i hHeld
    refine wpAnyH_take (i := 14) (v := .bool false) rfl (by kernel_rfl) (by kernel_rfl) (by kernel_rfl) (fun _ _ _ h => h) (Or.inl ⟨by rfl, fun w hw => by obtain ⟨s0, s1, s2, s3⟩ := hw; go_simp⟩) hHeld ?_
    simp only [Act.put, List.getElem_toArray, List.getElem_cons_succ, List.getElem_cons_zero, List.setIfInBounds_toArray, List.set_cons_succ, List.set_cons_zero]
    refine wpAnyH_done (by kernel_rfl) ?_ _
    go_wp2
    refine bodyPost_ret (v := .tuple #[rootV m (H : Int) F l, .bool false]) (by simp [results, Tryd.results57, go_sem, c0, c1, c2, c3]) rfl ⟨⟨m, (H : Int), F, l, false, rfl, by rw [HRO2.out]; rfl⟩, ?_⟩
    exact (((HB7.out.setCell (Nat.le_refl _) _).setCell (Nat.le_refl _) _).setCell (Nat.le_refl _) _).setCell (Nat.le_refl _) _

theorem l5at_s (s : ByteArray) (a n : Int) (w : World) (hs : s.size ≤ 1048576) : Calls Tryd.prog 57 #[.string s, .int .i64 a, .int .i64 n] w fun e w' => (∃ t h f l b, e = .returned (.tuple #[rootV t h f l, .bool b]) ∧ rootOf s a n = if b = true then some (t, h, f, l) else none) ∧ Below w.heap.size w w' := by
  have HS := fun wx => readpage_s_any s n wx hs
  cases hR : rpRes s n with
  | none =>
    rw [hR] at HS
    exact l5at_no s a n w 0 0 0 ⟨#[]⟩ false HS (by decide) (.inl rfl) (by show _ = _; unfold rootOf; rw [hR])
  | some x =>
    obtain ⟨k, l, m, p⟩ := x
    rw [hR] at HS
    by_cases h5 : p.size = 5
    · exact l5at_yes s a n w k l m p hR HS h5
    · exact l5at_no s a n w k l m p true HS (rpRes_some hR).2.2.2.2.2.2 (.inr h5) (by show _ = _; unfold rootOf; rw [hR]; simp [h5])
end Go.Proofs.YtbjeomlpcdaieaeDoor
