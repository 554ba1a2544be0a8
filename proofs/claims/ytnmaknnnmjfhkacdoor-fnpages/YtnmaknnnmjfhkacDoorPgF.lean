import Derived.Test.YtnmaknnnmjfhkacDoorPgE
namespace Go.Proofs.YtnmaknnnmjfhkacDoor
open Go.RowKit
set_option maxRecDepth 8000
set_option linter.unusedVariables false
set_option linter.unusedSimpArgs false

theorem open_r2 (a : Option Addr) (n c : Nat) (w : World) (h : Bys w a n) (hn : n ≤ 1048576) (hc : n ≤ c) : Calls Tryd.prog 18 #[.slice a n c] w fun e w' => e = .returned (.pointer (some ⟨w.heap.size, 0, none⟩)) ∧ (∃ m c', m ≤ n ∧ Rdr w' w.heap.size a m c' 0) ∧ Below w.heap.size w w' := by
  by_cases h2 : n ≤ 2000
  · have h2' : (n : Int) ≤ 2000 := by omega
    go_enter Tryd.func18, Tryd.ntmps18
    go_wp2
    go_ret
    exact ⟨rfl, ⟨n, c, Nat.le_refl _, h.rdr (Nat.le_refl _) h2 c _⟩, (Below.refl _ _).alloc (Nat.le_refl _) _⟩
  · have h2' : 2000 < (n : Int) := by omega
    have hc2 : (2000 : Int) ≤ (c : Int) := by omega
    have HR := hid (h.rdr (m := 2000) (by omega) (Nat.le_refl _) c 77)
    obtain ⟨g, o, ha, hx⟩ := h
    obtain rfl : a = some ⟨g, o, none⟩ := ha.resolve_left (by omega)
    go_enter Tryd.func18, Tryd.ntmps18
    go_wp2
    go_ret
    refine ⟨rfl, ?_, (Below.refl _ _).alloc (Nat.le_refl _) _⟩
    first | exact ⟨2000, c, by omega, HR.out⟩ | exact ⟨2000, by omega, c, HR.out⟩

set_option maxHeartbeats 8000000 in
theorem dfp_r (a : Option Addr) (n c : Nat) (w : World) (h : Bys w a n) (hn : n ≤ 1048576) (hc : n ≤ c) :
    Calls Tryd.prog 8 #[.slice a n c] w fun e w' => (∃ k l m t wd, e = .returned (.tuple #[pageV k l m t, .int .i64 wd]) ∧ t.size ≤ 64000) ∧ Below w.heap.size w w' := by
  have hb0 : ∀ o, Below w.heap.size w (w.alloc o) := fun o => below_nw _ _
  have hgb : ∀ g o, a = some ⟨g, o, none⟩ → 0 < n → g < w.heap.size := fun g o ha h0 => by
    obtain ⟨g', o', ha', hx⟩ := h
    have e := ha'.resolve_left (by omega)
    rw [ha] at e
    injection e with e
    injection e with e1 e2
    subst e1
    exact (hx 0 h0).1
  go_enter Tryd.func8, Tryd.ntmps8
  go_wp2_with fail
  obtain ⟨w0, e_w0⟩ : ∃ xw, xw = w.alloc (.cells #[.int .i64 0, .int .i64 0, .int .i64 0, .string ⟨#[]⟩] 23) := ⟨_, rfl⟩
  have rA0 : Row w0 w.heap.size [.int .i64 0, .int .i64 0, .int .i64 0, .string ⟨#[]⟩] := by rw [e_w0]; exact row_new _ _ _
  have hbA : Below w.heap.size w w0 := by rw [e_w0]; exact below_nw _ _
  have sA : w0.heap.size = w.heap.size + 1 := by rw [e_w0]; simp
  rw [← e_w0]
  clear e_w0
  refine (open_r2 a n c _ (h.below hbA) hn hc).mono ?_
  rintro e w1 ⟨rfl, ⟨n', c', hnn, hr1⟩, hb1⟩
  rw [sA] at hr1 ⊢
  have rA1 := rA0.below hb1
  have be1 := hbA.trans (hb1.mono hbA.size)
  clear hb1 rA0
  go_wp2_with fail
  refine (width_r (w.heap.size + 1) a n' c' 0 _ hr1 (by omega)).mono ?_
  rintro e w2 ⟨⟨wd', rfl, wd0, wd1⟩, hr2, hg2⟩
  obtain ⟨wd, rfl⟩ : ∃ k : Nat, wd' = (k : Int) := ⟨wd'.toNat, by omega⟩
  have rA2 := rA1.grown hg2 (fun e => by injection e with e; omega)
  have be2 := be1.trans (grown_below hg2 be1.size (fun g e => by cases e; omega))
  clear hg2
  go_wp2_with fail
  refine (page_r (w.heap.size + 1) a n' c' (0 + 1) wd _ hr2 (by omega) (by omega) (by omega)).mono ?_
  rintro e w3 ⟨⟨k, l, m, t, rfl, ht⟩, ⟨q, q0, q1, hr3⟩, hg3⟩
  have rA3 := rA2.grown hg3 (fun e => by injection e with e; omega)
  have be3 := be2.trans (grown_below hg3 be2.size (fun g e => by cases e; omega))
  have l3 := rA3.lt
  have lR3 := lt_of_cell hr3.pc
  have q2 : q ≤ 100 := by omega
  have D0 : DFs w (w3.alloc (.cells #[.int .i64 k, .int .i64 l, .int .i64 m, .string t] 23)) w3.heap.size w.heap.size (w.heap.size + 1) k l m t a n' c' q :=
    ⟨row_new _ _ _, rA3.alloc _, hr3.below (below_nw _ _), by omega, by omega, by omega, by omega, Nat.le_refl _, by omega, fun g o ea e0 => hgb g o ea (by omega), be3.trans ((below_nw _ _).mono be3.size)⟩
  clear hg3 rA1 rA2 be1 be2
  go_wp2_with fail
  obtain ⟨w4, e_w4⟩ : ∃ xw, xw = w3.alloc (.cells #[.int .i64 k, .int .i64 l, .int .i64 m, .string t] 23) := ⟨_, rfl⟩
  rw [← e_w4] at D0 ⊢
  clear e_w4
  obtain ⟨P, e_P⟩ : ∃ x, x = w3.heap.size := ⟨_, rfl⟩
  rw [← e_P] at D0 ⊢
  clear e_P be3 l3 lR3 rA3 hr3 hr2 hr1
  have g3 := D0.rp.cell 3 _ rfl
  have gl := D0.rp.lt
  have hP := D0.bp
  by_cases hlen : (64 - (wd : Int) - 8) < (t.size : Int)
  · go_quiet ((go_at_call 14; exact Calls.quiet_of_same (part_s _ _ (by omega) (by omega))))
    have D1 := D0.below (below_drewN (Below.refl _ _) nq)
    go_wp2_with fail
    obtain ⟨w5, e_w5⟩ : ∃ xw, xw = w4.drewN nq := ⟨_, rfl⟩
    rw [← e_w5] at D1 ⊢
    clear e_w5
    have D2 : DFs w w5.drew P w.heap.size (w.heap.size + 1) k l m t a n' c' q := D1.below (Below.refl _ _).drew
    obtain ⟨pn, hpn⟩ : ∃ pn : Nat, (64 - (wd : Int) - 8) = (pn : Int) := ⟨(64 - (wd : Int) - 8).toNat, by omega⟩
    have CP := hid (fun w' => part_s (wd : Int) w' (by omega) (by omega))
    rw [hpn] at CP hlen
    have hps : pn ≤ t.size := by omega
    have HPN := hid hpn
    clear hpn
    refine wp_region_held_drew (S := fun w' => True) (by kernel_rfl) (trivial) (fun hHeld => ?_)
    refine wpAnyH_take (i := 0) (v := .pointer (some ⟨P, 3, none⟩)) rfl (by kernel_rfl) (by kernel_rfl) (by kernel_rfl) (fun _ _ _ h => h) (Or.inl ⟨by rfl, fun w hw => by obtain z0 := hw; go_simp⟩) hHeld ?_
    simp only [Act.put, List.getElem_toArray, List.getElem_cons_zero, List.getElem_cons_succ, List.setIfInBounds_toArray, List.set_cons_zero, List.set_cons_succ]
    refine wpAnyH_take (i := 2) (v := .int .i64 (wd : Int)) rfl (by kernel_rfl) (by kernel_rfl) (by kernel_rfl) (fun _ _ _ h => h) (Or.inl ⟨by rfl, fun w hw => by obtain z0 := hw; go_simp⟩) hHeld ?_
    simp only [Act.put, List.getElem_toArray, List.getElem_cons_zero, List.getElem_cons_succ, List.setIfInBounds_toArray, List.set_cons_zero, List.set_cons_succ]
    refine wpAnyH_ready (rs := [1, 3]) (by kernel_rfl) (by simp) ?_
    refine AllReadyH.cons rfl (fun K hK => ?_) (AllReadyH.cons rfl (fun K hK => ?_) AllReadyH.nil)
    · have g5 := D2.rp.cell 3 _ rfl
      go_simp
      refine hK.out _ _ hHeld (fun _ => ?_)
      clear hK K
      try simp only [Act.put, List.getElem_toArray, List.getElem_cons_zero, List.getElem_cons_succ, List.setIfInBounds_toArray, List.set_cons_zero, List.set_cons_succ]
      refine wpAnyH_ready (rs := [3]) (by kernel_rfl) (by simp) ?_
      refine AllReadyH.cons rfl (fun K hK => ?_) AllReadyH.nil
      refine step_call (by rfl) 14 #[.int .i64 (wd : Int)] (by go_simp) (CP.out _) ?_
      rintro e wz ⟨rfl, rfl⟩
      refine ⟨_, rfl, ?_⟩
      refine hK.out _ _ hHeld (fun _ => ?_)
      clear hK K
      try simp only [Act.put, List.getElem_toArray, List.getElem_cons_zero, List.getElem_cons_succ, List.setIfInBounds_toArray, List.set_cons_zero, List.set_cons_succ]
      refine wpAnyH_take (i := 4) (v := .string (t.extract 0 pn)) rfl (by kernel_rfl) (by kernel_rfl) (by kernel_rfl) (fun _ _ _ h => h) (Or.inl ⟨by rfl, fun w hw => by obtain z0 := hw; go_simp⟩) hHeld ?_
      simp only [Act.put, List.getElem_toArray, List.getElem_cons_zero, List.getElem_cons_succ, List.setIfInBounds_toArray, List.set_cons_zero, List.set_cons_succ]
      refine wpAnyH_take (i := 5) (v := .pointer (some ⟨P, 3, none⟩)) rfl (by kernel_rfl) (by kernel_rfl) (by kernel_rfl) (fun _ _ _ h => h) (Or.inl ⟨by rfl, fun w hw => by obtain z0 := hw; go_simp⟩) hHeld ?_
      simp only [Act.put, List.getElem_toArray, List.getElem_cons_zero, List.getElem_cons_succ, List.setIfInBounds_toArray, List.set_cons_zero, List.set_cons_succ]
      refine wpAnyH_ready (rs := [6]) (by kernel_rfl) (by simp) ?_
      refine AllReadyH.cons rfl (fun K hK => ?_) AllReadyH.nil
      have g5 := D2.rp.cell 3 _ rfl
      have g6 := D2.rp.froz 3 (by simp)
      have g7 := D2.rp.lt
      go_simp
      refine hK.out _ _ hHeld (fun _ => ?_)
      clear hK K
      try simp only [Act.put, List.getElem_toArray, List.getElem_cons_zero, List.getElem_cons_succ, List.setIfInBounds_toArray, List.set_cons_zero, List.set_cons_succ]
      refine wpAnyH_done (by kernel_rfl) ?_ _
      have D3 : DFs w (w5.setCell ⟨P, 3, none⟩ (.string (t.extract 0 pn))).drew P w.heap.size (w.heap.size + 1) k l m (t.extract 0 pn) a n' c' q := (D1.set3 (t.extract 0 pn)).below (Below.refl _ _).drew
      clear g5 g6 g7
      obtain ⟨w6, e_w6⟩ : ∃ xw, xw = (w5.setCell ⟨P, 3, none⟩ (.string (t.extract 0 pn))).drew := ⟨_, rfl⟩
      rw [← e_w6] at D3 ⊢
      clear e_w6
      obtain ⟨T, e_T⟩ : ∃ x, x = t.extract 0 pn := ⟨_, rfl⟩
      have hTs : T.size ≤ 64000 := by rw [e_T]; simp only [ByteArray.size_extract]; omega
      rw [← e_T] at D3 ⊢
      clear e_T D2 D1 D0 HPN CP hlen hps g3 gl
      go_wp2_with fail
      refine (pick_r (w.heap.size + 1) a n' c' (q) 3 _ D3.rd (by omega)).mono ?_
      rintro e w_E1 ⟨⟨v1, rfl, v10, v11⟩, hr_E1, hg_E1⟩
      have E1 := D3.pick hr_E1 hg_E1
      clear hr_E1 hg_E1
      by_cases hv1 : 0 < v1
      · have HF := hid E1
        have fx0 := HF.out.rp.cell 0 _ rfl
        have fx1 := HF.out.rp.cell 1 _ rfl
        have fx2 := HF.out.rp.cell 2 _ rfl
        have fx3 := HF.out.rp.cell 3 _ rfl
        have fxl := HF.out.rp.lt
        have fy0 := HF.out.ra.cell 0 _ rfl
        have fyf0 := HF.out.ra.froz 0 (by simp)
        have fy1 := HF.out.ra.cell 1 _ rfl
        have fyf1 := HF.out.ra.froz 1 (by simp)
        have fy2 := HF.out.ra.cell 2 _ rfl
        have fyf2 := HF.out.ra.froz 2 (by simp)
        have fy3 := HF.out.ra.cell 3 _ rfl
        have fyf3 := HF.out.ra.froz 3 (by simp)
        have fyl := HF.out.ra.lt
        go_wp2
        refine bodyPost_ret (v := .tuple #[pageV k l m T, .int .i64 (wd : Int)]) (by simp [results, Tryd.results8, go_sem, fy0, fy1, fy2, fy3]) rfl ⟨⟨_, _, _, _, _, rfl, by first | omega | (simp only [ByteArray.size_extract]; omega)⟩, ?_⟩
        exact (((HF.out.be.setCell (by show w.heap.size ≤ w.heap.size; omega) _).setCell (by show w.heap.size ≤ w.heap.size; omega) _).setCell (by show w.heap.size ≤ w.heap.size; omega) _).setCell (by show w.heap.size ≤ w.heap.size; omega) _
      obtain rfl : v1 = 0 := by omega
      go_wp2_with fail
      refine (pick_r (w.heap.size + 1) a n' c' (q + 1) 5 _ E1.rd (by omega)).mono ?_
      rintro e w_E2 ⟨⟨v2, rfl, v20, v21⟩, hr_E2, hg_E2⟩
      have E2 := E1.pick hr_E2 hg_E2
      clear hr_E2 hg_E2
      have hv2 : v2 = 0 ∨ v2 = 1 ∨ v2 = 2 ∨ v2 = 3 ∨ v2 = 4 := by omega
      clear v20 v21
      rcases hv2 with rfl | rfl | rfl | rfl | rfl
      · go_wp2_with fail
        refine (pick_r (w.heap.size + 1) a n' c' (q + 1 + 1) 7 _ (E2).rd (by omega)).mono ?_
        rintro e w_E3 ⟨⟨v3, rfl, v30, v31⟩, hr_E3, hg_E3⟩
        have E3 := (E2).pick hr_E3 hg_E3
        have hs3 : IntKind.i64.wrap (v3 - 1) = v3 - 1 := wrap_i64_id _ (by omega) (by omega)
        have E4 := E3.set0 (v3 - 1)
        have fx0 := E3.rp.cell 0 _ rfl
        have fxf0 := E3.rp.froz 0 (by simp)
        have fx1 := E3.rp.cell 1 _ rfl
        have fxf1 := E3.rp.froz 1 (by simp)
        have fx2 := E3.rp.cell 2 _ rfl
        have fxf2 := E3.rp.froz 2 (by simp)
        have fx3 := E3.rp.cell 3 _ rfl
        have fxf3 := E3.rp.froz 3 (by simp)
        have fxl := E3.rp.lt
        have fy0 := E3.ra.cell 0 _ rfl
        have fyf0 := E3.ra.froz 0 (by simp)
        have fy1 := E3.ra.cell 1 _ rfl
        have fyf1 := E3.ra.froz 1 (by simp)
        have fy2 := E3.ra.cell 2 _ rfl
        have fyf2 := E3.ra.froz 2 (by simp)
        have fy3 := E3.ra.cell 3 _ rfl
        have fyf3 := E3.ra.froz 3 (by simp)
        have fyl := E3.ra.lt
        have fpa := E3.pa
        have HF := hid E4
        go_wp2
        refine bodyPost_ret (v := .tuple #[pageV (v3 - 1) l m T, .int .i64 (wd : Int)]) (by simp [results, Tryd.results8, go_sem, fy0, fy1, fy2, fy3, fpa, fpa.symm]) rfl ⟨⟨_, _, _, _, _, rfl, by first | omega | (simp only [ByteArray.size_extract]; omega)⟩, ?_⟩
        exact (((HF.out.be.setCell (by show w.heap.size ≤ w.heap.size; omega) _).setCell (by show w.heap.size ≤ w.heap.size; omega) _).setCell (by show w.heap.size ≤ w.heap.size; omega) _).setCell (by show w.heap.size ≤ w.heap.size; omega) _
      · go_wp2_with fail
        have rR := row_new w_E2 #[.int .i64 0, .int .i64 (-1), .int .i64 60001] 3
        refine (pick_r (w.heap.size + 1) a n' c' (q + 1 + 1) 3 _ (E2.below (below_nw _ (.cells #[.int .i64 0, .int .i64 (-1), .int .i64 60001] 3))).rd (by omega)).mono ?_
        rintro e w_E3 ⟨⟨v3, rfl, v30, v31⟩, hr_E3, hg_E3⟩
        have E3 := (E2.below (below_nw _ (.cells #[.int .i64 0, .int .i64 (-1), .int .i64 60001] 3))).pick hr_E3 hg_E3
        have lE2 := lt_of_cell E2.rd.pc
        have rR3 := rR.grown hg_E3 (fun e => by injection e with e; omega)
        have ar0 := rR3.cell 0 _ rfl
        have ar1 := rR3.cell 1 _ rfl
        have ar2 := rR3.cell 2 _ rfl
        have arl := rR3.lt
        clear rR hr_E3 hg_E3
        have hv3 : v3 = 0 ∨ v3 = 1 ∨ v3 = 2 := by omega
        clear v30 v31
        rcases hv3 with rfl | rfl | rfl
        · have fx0 := E3.rp.cell 0 _ rfl
          have fxf0 := E3.rp.froz 0 (by simp)
          have fx1 := E3.rp.cell 1 _ rfl
          have fxf1 := E3.rp.froz 1 (by simp)
          have fx2 := E3.rp.cell 2 _ rfl
          have fxf2 := E3.rp.froz 2 (by simp)
          have fx3 := E3.rp.cell 3 _ rfl
          have fxf3 := E3.rp.froz 3 (by simp)
          have fxl := E3.rp.lt
          have fy0 := E3.ra.cell 0 _ rfl
          have fyf0 := E3.ra.froz 0 (by simp)
          have fy1 := E3.ra.cell 1 _ rfl
          have fyf1 := E3.ra.froz 1 (by simp)
          have fy2 := E3.ra.cell 2 _ rfl
          have fyf2 := E3.ra.froz 2 (by simp)
          have fy3 := E3.ra.cell 3 _ rfl
          have fyf3 := E3.ra.froz 3 (by simp)
          have fyl := E3.ra.lt
          have fpa := E3.pa
          have HF := hid (E3.set1 0)
          go_wp2
          refine bodyPost_ret (v := .tuple #[pageV k 0 m T, .int .i64 (wd : Int)]) (by simp [results, Tryd.results8, go_sem, fy0, fy1, fy2, fy3, fpa, fpa.symm]) rfl ⟨⟨_, _, _, _, _, rfl, by first | omega | (simp only [ByteArray.size_extract]; omega)⟩, ?_⟩
          exact (((HF.out.be.setCell (by show w.heap.size ≤ w.heap.size; omega) _).setCell (by show w.heap.size ≤ w.heap.size; omega) _).setCell (by show w.heap.size ≤ w.heap.size; omega) _).setCell (by show w.heap.size ≤ w.heap.size; omega) _
        · have fx0 := E3.rp.cell 0 _ rfl
          have fxf0 := E3.rp.froz 0 (by simp)
          have fx1 := E3.rp.cell 1 _ rfl
          have fxf1 := E3.rp.froz 1 (by simp)
          have fx2 := E3.rp.cell 2 _ rfl
          have fxf2 := E3.rp.froz 2 (by simp)
          have fx3 := E3.rp.cell 3 _ rfl
          have fxf3 := E3.rp.froz 3 (by simp)
          have fxl := E3.rp.lt
          have fy0 := E3.ra.cell 0 _ rfl
          have fyf0 := E3.ra.froz 0 (by simp)
          have fy1 := E3.ra.cell 1 _ rfl
          have fyf1 := E3.ra.froz 1 (by simp)
          have fy2 := E3.ra.cell 2 _ rfl
          have fyf2 := E3.ra.froz 2 (by simp)
          have fy3 := E3.ra.cell 3 _ rfl
          have fyf3 := E3.ra.froz 3 (by simp)
          have fyl := E3.ra.lt
          have fpa := E3.pa
          have HF := hid (E3.set1 (-1))
          go_wp2
          refine bodyPost_ret (v := .tuple #[pageV k (-1) m T, .int .i64 (wd : Int)]) (by simp [results, Tryd.results8, go_sem, fy0, fy1, fy2, fy3, fpa, fpa.symm]) rfl ⟨⟨_, _, _, _, _, rfl, by first | omega | (simp only [ByteArray.size_extract]; omega)⟩, ?_⟩
          exact (((HF.out.be.setCell (by show w.heap.size ≤ w.heap.size; omega) _).setCell (by show w.heap.size ≤ w.heap.size; omega) _).setCell (by show w.heap.size ≤ w.heap.size; omega) _).setCell (by show w.heap.size ≤ w.heap.size; omega) _
        · have fx0 := E3.rp.cell 0 _ rfl
          have fxf0 := E3.rp.froz 0 (by simp)
          have fx1 := E3.rp.cell 1 _ rfl
          have fxf1 := E3.rp.froz 1 (by simp)
          have fx2 := E3.rp.cell 2 _ rfl
          have fxf2 := E3.rp.froz 2 (by simp)
          have fx3 := E3.rp.cell 3 _ rfl
          have fxf3 := E3.rp.froz 3 (by simp)
          have fxl := E3.rp.lt
          have fy0 := E3.ra.cell 0 _ rfl
          have fyf0 := E3.ra.froz 0 (by simp)
          have fy1 := E3.ra.cell 1 _ rfl
          have fyf1 := E3.ra.froz 1 (by simp)
          have fy2 := E3.ra.cell 2 _ rfl
          have fyf2 := E3.ra.froz 2 (by simp)
          have fy3 := E3.ra.cell 3 _ rfl
          have fyf3 := E3.ra.froz 3 (by simp)
          have fyl := E3.ra.lt
          have fpa := E3.pa
          have HF := hid (E3.set1 60001)
          go_wp2
          refine bodyPost_ret (v := .tuple #[pageV k 60001 m T, .int .i64 (wd : Int)]) (by simp [results, Tryd.results8, go_sem, fy0, fy1, fy2, fy3, fpa, fpa.symm]) rfl ⟨⟨_, _, _, _, _, rfl, by first | omega | (simp only [ByteArray.size_extract]; omega)⟩, ?_⟩
          exact (((HF.out.be.setCell (by show w.heap.size ≤ w.heap.size; omega) _).setCell (by show w.heap.size ≤ w.heap.size; omega) _).setCell (by show w.heap.size ≤ w.heap.size; omega) _).setCell (by show w.heap.size ≤ w.heap.size; omega) _
      · go_wp2_with fail
        have rR := row_new w_E2 #[.int .i64 0, .int .i64 (-1), .int .i64 1000000001] 3
        refine (pick_r (w.heap.size + 1) a n' c' (q + 1 + 1) 3 _ (E2.below (below_nw _ (.cells #[.int .i64 0, .int .i64 (-1), .int .i64 1000000001] 3))).rd (by omega)).mono ?_
        rintro e w_E3 ⟨⟨v3, rfl, v30, v31⟩, hr_E3, hg_E3⟩
        have E3 := (E2.below (below_nw _ (.cells #[.int .i64 0, .int .i64 (-1), .int .i64 1000000001] 3))).pick hr_E3 hg_E3
        have lE2 := lt_of_cell E2.rd.pc
        have rR3 := rR.grown hg_E3 (fun e => by injection e with e; omega)
        have ar0 := rR3.cell 0 _ rfl
        have ar1 := rR3.cell 1 _ rfl
        have ar2 := rR3.cell 2 _ rfl
        have arl := rR3.lt
        clear rR hr_E3 hg_E3
        have hv3 : v3 = 0 ∨ v3 = 1 ∨ v3 = 2 := by omega
        clear v30 v31
        rcases hv3 with rfl | rfl | rfl
        · have fx0 := E3.rp.cell 0 _ rfl
          have fxf0 := E3.rp.froz 0 (by simp)
          have fx1 := E3.rp.cell 1 _ rfl
          have fxf1 := E3.rp.froz 1 (by simp)
          have fx2 := E3.rp.cell 2 _ rfl
          have fxf2 := E3.rp.froz 2 (by simp)
          have fx3 := E3.rp.cell 3 _ rfl
          have fxf3 := E3.rp.froz 3 (by simp)
          have fxl := E3.rp.lt
          have fy0 := E3.ra.cell 0 _ rfl
          have fyf0 := E3.ra.froz 0 (by simp)
          have fy1 := E3.ra.cell 1 _ rfl
          have fyf1 := E3.ra.froz 1 (by simp)
          have fy2 := E3.ra.cell 2 _ rfl
          have fyf2 := E3.ra.froz 2 (by simp)
          have fy3 := E3.ra.cell 3 _ rfl
          have fyf3 := E3.ra.froz 3 (by simp)
          have fyl := E3.ra.lt
          have fpa := E3.pa
          have HF := hid (E3.set2 0)
          go_wp2
          refine bodyPost_ret (v := .tuple #[pageV k l 0 T, .int .i64 (wd : Int)]) (by simp [results, Tryd.results8, go_sem, fy0, fy1, fy2, fy3, fpa, fpa.symm]) rfl ⟨⟨_, _, _, _, _, rfl, by first | omega | (simp only [ByteArray.size_extract]; omega)⟩, ?_⟩
          exact (((HF.out.be.setCell (by show w.heap.size ≤ w.heap.size; omega) _).setCell (by show w.heap.size ≤ w.heap.size; omega) _).setCell (by show w.heap.size ≤ w.heap.size; omega) _).setCell (by show w.heap.size ≤ w.heap.size; omega) _
        · have fx0 := E3.rp.cell 0 _ rfl
          have fxf0 := E3.rp.froz 0 (by simp)
          have fx1 := E3.rp.cell 1 _ rfl
          have fxf1 := E3.rp.froz 1 (by simp)
          have fx2 := E3.rp.cell 2 _ rfl
          have fxf2 := E3.rp.froz 2 (by simp)
          have fx3 := E3.rp.cell 3 _ rfl
          have fxf3 := E3.rp.froz 3 (by simp)
          have fxl := E3.rp.lt
          have fy0 := E3.ra.cell 0 _ rfl
          have fyf0 := E3.ra.froz 0 (by simp)
          have fy1 := E3.ra.cell 1 _ rfl
          have fyf1 := E3.ra.froz 1 (by simp)
          have fy2 := E3.ra.cell 2 _ rfl
          have fyf2 := E3.ra.froz 2 (by simp)
          have fy3 := E3.ra.cell 3 _ rfl
          have fyf3 := E3.ra.froz 3 (by simp)
          have fyl := E3.ra.lt
          have fpa := E3.pa
          have HF := hid (E3.set2 (-1))
          go_wp2
          refine bodyPost_ret (v := .tuple #[pageV k l (-1) T, .int .i64 (wd : Int)]) (by simp [results, Tryd.results8, go_sem, fy0, fy1, fy2, fy3, fpa, fpa.symm]) rfl ⟨⟨_, _, _, _, _, rfl, by first | omega | (simp only [ByteArray.size_extract]; omega)⟩, ?_⟩
          exact (((HF.out.be.setCell (by show w.heap.size ≤ w.heap.size; omega) _).setCell (by show w.heap.size ≤ w.heap.size; omega) _).setCell (by show w.heap.size ≤ w.heap.size; omega) _).setCell (by show w.heap.size ≤ w.heap.size; omega) _
        · have fx0 := E3.rp.cell 0 _ rfl
          have fxf0 := E3.rp.froz 0 (by simp)
          have fx1 := E3.rp.cell 1 _ rfl
          have fxf1 := E3.rp.froz 1 (by simp)
          have fx2 := E3.rp.cell 2 _ rfl
          have fxf2 := E3.rp.froz 2 (by simp)
          have fx3 := E3.rp.cell 3 _ rfl
          have fxf3 := E3.rp.froz 3 (by simp)
          have fxl := E3.rp.lt
          have fy0 := E3.ra.cell 0 _ rfl
          have fyf0 := E3.ra.froz 0 (by simp)
          have fy1 := E3.ra.cell 1 _ rfl
          have fyf1 := E3.ra.froz 1 (by simp)
          have fy2 := E3.ra.cell 2 _ rfl
          have fyf2 := E3.ra.froz 2 (by simp)
          have fy3 := E3.ra.cell 3 _ rfl
          have fyf3 := E3.ra.froz 3 (by simp)
          have fyl := E3.ra.lt
          have fpa := E3.pa
          have HF := hid (E3.set2 1000000001)
          go_wp2
          refine bodyPost_ret (v := .tuple #[pageV k l 1000000001 T, .int .i64 (wd : Int)]) (by simp [results, Tryd.results8, go_sem, fy0, fy1, fy2, fy3, fpa, fpa.symm]) rfl ⟨⟨_, _, _, _, _, rfl, by first | omega | (simp only [ByteArray.size_extract]; omega)⟩, ?_⟩
          exact (((HF.out.be.setCell (by show w.heap.size ≤ w.heap.size; omega) _).setCell (by show w.heap.size ≤ w.heap.size; omega) _).setCell (by show w.heap.size ≤ w.heap.size; omega) _).setCell (by show w.heap.size ≤ w.heap.size; omega) _
      · go_wp2_with fail
        refine (part_s (wd : Int) _ (by omega) (by omega)).mono ?_
        rintro e wz ⟨rfl, hwz⟩
        rw [hwz]
        clear hwz wz
        go_wp2_with fail
        refine (pick_r (w.heap.size + 1) a n' c' (q + 1 + 1) 2 _ (E2).rd (by omega)).mono ?_
        rintro e w_E3 ⟨⟨v3, rfl, v30, v31⟩, hr_E3, hg_E3⟩
        have E3 := (E2).pick hr_E3 hg_E3
        have hs3 : IntKind.i64.wrap (64 - (wd : Int) - 8 + v3) = 64 - (wd : Int) - 8 + v3 := wrap_i64_id _ (by omega) (by omega)
        go_wp2_with fail
        refine (many_r ⟨#[112]⟩ (64 - (wd : Int) - 8 + v3) _ (by decide) (by omega)).mono ?_
        rintro e w_E4 ⟨⟨t2, rfl, ht2⟩, hb_E4⟩
        have E4 := E3.below hb_E4
        have fx0 := E4.rp.cell 0 _ rfl
        have fxf0 := E4.rp.froz 0 (by simp)
        have fx1 := E4.rp.cell 1 _ rfl
        have fxf1 := E4.rp.froz 1 (by simp)
        have fx2 := E4.rp.cell 2 _ rfl
        have fxf2 := E4.rp.froz 2 (by simp)
        have fx3 := E4.rp.cell 3 _ rfl
        have fxf3 := E4.rp.froz 3 (by simp)
        have fxl := E4.rp.lt
        have fy0 := E4.ra.cell 0 _ rfl
        have fyf0 := E4.ra.froz 0 (by simp)
        have fy1 := E4.ra.cell 1 _ rfl
        have fyf1 := E4.ra.froz 1 (by simp)
        have fy2 := E4.ra.cell 2 _ rfl
        have fyf2 := E4.ra.froz 2 (by simp)
        have fy3 := E4.ra.cell 3 _ rfl
        have fyf3 := E4.ra.froz 3 (by simp)
        have fyl := E4.ra.lt
        have fpa := E4.pa
        have HF := hid (E4.set3 t2)
        go_wp2
        refine bodyPost_ret (v := .tuple #[pageV k l m t2, .int .i64 (wd : Int)]) (by simp [results, Tryd.results8, go_sem, fy0, fy1, fy2, fy3, fpa, fpa.symm]) rfl ⟨⟨_, _, _, _, _, rfl, by first | omega | (simp only [ByteArray.size_extract]; omega)⟩, ?_⟩
        exact (((HF.out.be.setCell (by show w.heap.size ≤ w.heap.size; omega) _).setCell (by show w.heap.size ≤ w.heap.size; omega) _).setCell (by show w.heap.size ≤ w.heap.size; omega) _).setCell (by show w.heap.size ≤ w.heap.size; omega) _
      · go_wp2_with fail
        have rR := row_new w_E2 #[.int .i64 0, .int .i64 9, .int .i64 (-1)] 3
        refine (pick_r (w.heap.size + 1) a n' c' (q + 1 + 1) 3 _ (E2.below (below_nw _ (.cells #[.int .i64 0, .int .i64 9, .int .i64 (-1)] 3))).rd (by omega)).mono ?_
        rintro e w_E3 ⟨⟨v3, rfl, v30, v31⟩, hr_E3, hg_E3⟩
        have E3 := (E2.below (below_nw _ (.cells #[.int .i64 0, .int .i64 9, .int .i64 (-1)] 3))).pick hr_E3 hg_E3
        have lE2 := lt_of_cell E2.rd.pc
        have rR3 := rR.grown hg_E3 (fun e => by injection e with e; omega)
        have ar0 := rR3.cell 0 _ rfl
        have ar1 := rR3.cell 1 _ rfl
        have ar2 := rR3.cell 2 _ rfl
        have arl := rR3.lt
        clear rR hr_E3 hg_E3
        have hv3 : v3 = 0 ∨ v3 = 1 ∨ v3 = 2 := by omega
        clear v30 v31
        rcases hv3 with rfl | rfl | rfl
        · have fx0 := E3.rp.cell 0 _ rfl
          have fxf0 := E3.rp.froz 0 (by simp)
          have fx1 := E3.rp.cell 1 _ rfl
          have fxf1 := E3.rp.froz 1 (by simp)
          have fx2 := E3.rp.cell 2 _ rfl
          have fxf2 := E3.rp.froz 2 (by simp)
          have fx3 := E3.rp.cell 3 _ rfl
          have fxf3 := E3.rp.froz 3 (by simp)
          have fxl := E3.rp.lt
          have fy0 := E3.ra.cell 0 _ rfl
          have fyf0 := E3.ra.froz 0 (by simp)
          have fy1 := E3.ra.cell 1 _ rfl
          have fyf1 := E3.ra.froz 1 (by simp)
          have fy2 := E3.ra.cell 2 _ rfl
          have fyf2 := E3.ra.froz 2 (by simp)
          have fy3 := E3.ra.cell 3 _ rfl
          have fyf3 := E3.ra.froz 3 (by simp)
          have fyl := E3.ra.lt
          have fpa := E3.pa
          have HF := hid E3
          go_wp2
          refine bodyPost_ret (v := .tuple #[pageV k l m T, .int .i64 0]) (by simp [results, Tryd.results8, go_sem, fy0, fy1, fy2, fy3, fpa, fpa.symm]) rfl ⟨⟨_, _, _, _, _, rfl, by first | omega | (simp only [ByteArray.size_extract]; omega)⟩, ?_⟩
          exact (((HF.out.be.setCell (by show w.heap.size ≤ w.heap.size; omega) _).setCell (by show w.heap.size ≤ w.heap.size; omega) _).setCell (by show w.heap.size ≤ w.heap.size; omega) _).setCell (by show w.heap.size ≤ w.heap.size; omega) _
        · have fx0 := E3.rp.cell 0 _ rfl
          have fxf0 := E3.rp.froz 0 (by simp)
          have fx1 := E3.rp.cell 1 _ rfl
          have fxf1 := E3.rp.froz 1 (by simp)
          have fx2 := E3.rp.cell 2 _ rfl
          have fxf2 := E3.rp.froz 2 (by simp)
          have fx3 := E3.rp.cell 3 _ rfl
          have fxf3 := E3.rp.froz 3 (by simp)
          have fxl := E3.rp.lt
          have fy0 := E3.ra.cell 0 _ rfl
          have fyf0 := E3.ra.froz 0 (by simp)
          have fy1 := E3.ra.cell 1 _ rfl
          have fyf1 := E3.ra.froz 1 (by simp)
          have fy2 := E3.ra.cell 2 _ rfl
          have fyf2 := E3.ra.froz 2 (by simp)
          have fy3 := E3.ra.cell 3 _ rfl
          have fyf3 := E3.ra.froz 3 (by simp)
          have fyl := E3.ra.lt
          have fpa := E3.pa
          have HF := hid E3
          go_wp2
          refine bodyPost_ret (v := .tuple #[pageV k l m T, .int .i64 9]) (by simp [results, Tryd.results8, go_sem, fy0, fy1, fy2, fy3, fpa, fpa.symm]) rfl ⟨⟨_, _, _, _, _, rfl, by first | omega | (simp only [ByteArray.size_extract]; omega)⟩, ?_⟩
          exact (((HF.out.be.setCell (by show w.heap.size ≤ w.heap.size; omega) _).setCell (by show w.heap.size ≤ w.heap.size; omega) _).setCell (by show w.heap.size ≤ w.heap.size; omega) _).setCell (by show w.heap.size ≤ w.heap.size; omega) _
        · have fx0 := E3.rp.cell 0 _ rfl
          have fxf0 := E3.rp.froz 0 (by simp)
          have fx1 := E3.rp.cell 1 _ rfl
          have fxf1 := E3.rp.froz 1 (by simp)
          have fx2 := E3.rp.cell 2 _ rfl
          have fxf2 := E3.rp.froz 2 (by simp)
          have fx3 := E3.rp.cell 3 _ rfl
          have fxf3 := E3.rp.froz 3 (by simp)
          have fxl := E3.rp.lt
          have fy0 := E3.ra.cell 0 _ rfl
          have fyf0 := E3.ra.froz 0 (by simp)
          have fy1 := E3.ra.cell 1 _ rfl
          have fyf1 := E3.ra.froz 1 (by simp)
          have fy2 := E3.ra.cell 2 _ rfl
          have fyf2 := E3.ra.froz 2 (by simp)
          have fy3 := E3.ra.cell 3 _ rfl
          have fyf3 := E3.ra.froz 3 (by simp)
          have fyl := E3.ra.lt
          have fpa := E3.pa
          have HF := hid E3
          go_wp2
          refine bodyPost_ret (v := .tuple #[pageV k l m T, .int .i64 (-1)]) (by simp [results, Tryd.results8, go_sem, fy0, fy1, fy2, fy3, fpa, fpa.symm]) rfl ⟨⟨_, _, _, _, _, rfl, by first | omega | (simp only [ByteArray.size_extract]; omega)⟩, ?_⟩
          exact (((HF.out.be.setCell (by show w.heap.size ≤ w.heap.size; omega) _).setCell (by show w.heap.size ≤ w.heap.size; omega) _).setCell (by show w.heap.size ≤ w.heap.size; omega) _).setCell (by show w.heap.size ≤ w.heap.size; omega) _
    · refine step_call (by rfl) 14 #[.int .i64 (wd : Int)] (by go_simp) (CP.out _) ?_
      rintro e wz ⟨rfl, rfl⟩
      refine ⟨_, rfl, ?_⟩
      refine hK.out _ _ hHeld (fun _ => ?_)
      clear hK K
      try simp only [Act.put, List.getElem_toArray, List.getElem_cons_zero, List.getElem_cons_succ, List.setIfInBounds_toArray, List.set_cons_zero, List.set_cons_succ]
      refine wpAnyH_ready (rs := [1]) (by kernel_rfl) (by simp) ?_
      refine AllReadyH.cons rfl (fun K hK => ?_) AllReadyH.nil
      have g5 := D2.rp.cell 3 _ rfl
      go_simp
      refine hK.out _ _ hHeld (fun _ => ?_)
      clear hK K
      try simp only [Act.put, List.getElem_toArray, List.getElem_cons_zero, List.getElem_cons_succ, List.setIfInBounds_toArray, List.set_cons_zero, List.set_cons_succ]
      refine wpAnyH_take (i := 4) (v := .string (t.extract 0 pn)) rfl (by kernel_rfl) (by kernel_rfl) (by kernel_rfl) (fun _ _ _ h => h) (Or.inl ⟨by rfl, fun w hw => by obtain z0 := hw; go_simp⟩) hHeld ?_
      simp only [Act.put, List.getElem_toArray, List.getElem_cons_zero, List.getElem_cons_succ, List.setIfInBounds_toArray, List.set_cons_zero, List.set_cons_succ]
      refine wpAnyH_take (i := 5) (v := .pointer (some ⟨P, 3, none⟩)) rfl (by kernel_rfl) (by kernel_rfl) (by kernel_rfl) (fun _ _ _ h => h) (Or.inl ⟨by rfl, fun w hw => by obtain z0 := hw; go_simp⟩) hHeld ?_
      simp only [Act.put, List.getElem_toArray, List.getElem_cons_zero, List.getElem_cons_succ, List.setIfInBounds_toArray, List.set_cons_zero, List.set_cons_succ]
      refine wpAnyH_ready (rs := [6]) (by kernel_rfl) (by simp) ?_
      refine AllReadyH.cons rfl (fun K hK => ?_) AllReadyH.nil
      have g5 := D2.rp.cell 3 _ rfl
      have g6 := D2.rp.froz 3 (by simp)
      have g7 := D2.rp.lt
      go_simp
      refine hK.out _ _ hHeld (fun _ => ?_)
      clear hK K
      try simp only [Act.put, List.getElem_toArray, List.getElem_cons_zero, List.getElem_cons_succ, List.setIfInBounds_toArray, List.set_cons_zero, List.set_cons_succ]
      refine wpAnyH_done (by kernel_rfl) ?_ _
      have D3 : DFs w (w5.setCell ⟨P, 3, none⟩ (.string (t.extract 0 pn))).drew P w.heap.size (w.heap.size + 1) k l m (t.extract 0 pn) a n' c' q := (D1.set3 (t.extract 0 pn)).below (Below.refl _ _).drew
      clear g5 g6 g7
      obtain ⟨w6, e_w6⟩ : ∃ xw, xw = (w5.setCell ⟨P, 3, none⟩ (.string (t.extract 0 pn))).drew := ⟨_, rfl⟩
      rw [← e_w6] at D3 ⊢
      clear e_w6
      obtain ⟨T, e_T⟩ : ∃ x, x = t.extract 0 pn := ⟨_, rfl⟩
      have hTs : T.size ≤ 64000 := by rw [e_T]; simp only [ByteArray.size_extract]; omega
      rw [← e_T] at D3 ⊢
      clear e_T D2 D1 D0 HPN CP hlen hps g3 gl
      go_wp2_with fail
      refine (pick_r (w.heap.size + 1) a n' c' (q) 3 _ D3.rd (by omega)).mono ?_
      rintro e w_E1 ⟨⟨v1, rfl, v10, v11⟩, hr_E1, hg_E1⟩
      have E1 := D3.pick hr_E1 hg_E1
      clear hr_E1 hg_E1
      by_cases hv1 : 0 < v1
      · have HF := hid E1
        have fx0 := HF.out.rp.cell 0 _ rfl
        have fx1 := HF.out.rp.cell 1 _ rfl
        have fx2 := HF.out.rp.cell 2 _ rfl
        have fx3 := HF.out.rp.cell 3 _ rfl
        have fxl := HF.out.rp.lt
        have fy0 := HF.out.ra.cell 0 _ rfl
        have fyf0 := HF.out.ra.froz 0 (by simp)
        have fy1 := HF.out.ra.cell 1 _ rfl
        have fyf1 := HF.out.ra.froz 1 (by simp)
        have fy2 := HF.out.ra.cell 2 _ rfl
        have fyf2 := HF.out.ra.froz 2 (by simp)
        have fy3 := HF.out.ra.cell 3 _ rfl
        have fyf3 := HF.out.ra.froz 3 (by simp)
        have fyl := HF.out.ra.lt
        go_wp2
        refine bodyPost_ret (v := .tuple #[pageV k l m T, .int .i64 (wd : Int)]) (by simp [results, Tryd.results8, go_sem, fy0, fy1, fy2, fy3]) rfl ⟨⟨_, _, _, _, _, rfl, by first | omega | (simp only [ByteArray.size_extract]; omega)⟩, ?_⟩
        exact (((HF.out.be.setCell (by show w.heap.size ≤ w.heap.size; omega) _).setCell (by show w.heap.size ≤ w.heap.size; omega) _).setCell (by show w.heap.size ≤ w.heap.size; omega) _).setCell (by show w.heap.size ≤ w.heap.size; omega) _
      obtain rfl : v1 = 0 := by omega
      go_wp2_with fail
      refine (pick_r (w.heap.size + 1) a n' c' (q + 1) 5 _ E1.rd (by omega)).mono ?_
      rintro e w_E2 ⟨⟨v2, rfl, v20, v21⟩, hr_E2, hg_E2⟩
      have E2 := E1.pick hr_E2 hg_E2
      clear hr_E2 hg_E2
      have hv2 : v2 = 0 ∨ v2 = 1 ∨ v2 = 2 ∨ v2 = 3 ∨ v2 = 4 := by omega
      clear v20 v21
      rcases hv2 with rfl | rfl | rfl | rfl | rfl
      · go_wp2_with fail
        refine (pick_r (w.heap.size + 1) a n' c' (q + 1 + 1) 7 _ (E2).rd (by omega)).mono ?_
        rintro e w_E3 ⟨⟨v3, rfl, v30, v31⟩, hr_E3, hg_E3⟩
        have E3 := (E2).pick hr_E3 hg_E3
        have hs3 : IntKind.i64.wrap (v3 - 1) = v3 - 1 := wrap_i64_id _ (by omega) (by omega)
        have E4 := E3.set0 (v3 - 1)
        have fx0 := E3.rp.cell 0 _ rfl
        have fxf0 := E3.rp.froz 0 (by simp)
        have fx1 := E3.rp.cell 1 _ rfl
        have fxf1 := E3.rp.froz 1 (by simp)
        have fx2 := E3.rp.cell 2 _ rfl
        have fxf2 := E3.rp.froz 2 (by simp)
        have fx3 := E3.rp.cell 3 _ rfl
        have fxf3 := E3.rp.froz 3 (by simp)
        have fxl := E3.rp.lt
        have fy0 := E3.ra.cell 0 _ rfl
        have fyf0 := E3.ra.froz 0 (by simp)
        have fy1 := E3.ra.cell 1 _ rfl
        have fyf1 := E3.ra.froz 1 (by simp)
        have fy2 := E3.ra.cell 2 _ rfl
        have fyf2 := E3.ra.froz 2 (by simp)
        have fy3 := E3.ra.cell 3 _ rfl
        have fyf3 := E3.ra.froz 3 (by simp)
        have fyl := E3.ra.lt
        have fpa := E3.pa
        have HF := hid E4
        go_wp2
        refine bodyPost_ret (v := .tuple #[pageV (v3 - 1) l m T, .int .i64 (wd : Int)]) (by simp [results, Tryd.results8, go_sem, fy0, fy1, fy2, fy3, fpa, fpa.symm]) rfl ⟨⟨_, _, _, _, _, rfl, by first | omega | (simp only [ByteArray.size_extract]; omega)⟩, ?_⟩
        exact (((HF.out.be.setCell (by show w.heap.size ≤ w.heap.size; omega) _).setCell (by show w.heap.size ≤ w.heap.size; omega) _).setCell (by show w.heap.size ≤ w.heap.size; omega) _).setCell (by show w.heap.size ≤ w.heap.size; omega) _
      · go_wp2_with fail
        have rR := row_new w_E2 #[.int .i64 0, .int .i64 (-1), .int .i64 60001] 3
        refine (pick_r (w.heap.size + 1) a n' c' (q + 1 + 1) 3 _ (E2.below (below_nw _ (.cells #[.int .i64 0, .int .i64 (-1), .int .i64 60001] 3))).rd (by omega)).mono ?_
        rintro e w_E3 ⟨⟨v3, rfl, v30, v31⟩, hr_E3, hg_E3⟩
        have E3 := (E2.below (below_nw _ (.cells #[.int .i64 0, .int .i64 (-1), .int .i64 60001] 3))).pick hr_E3 hg_E3
        have lE2 := lt_of_cell E2.rd.pc
        have rR3 := rR.grown hg_E3 (fun e => by injection e with e; omega)
        have ar0 := rR3.cell 0 _ rfl
        have ar1 := rR3.cell 1 _ rfl
        have ar2 := rR3.cell 2 _ rfl
        have arl := rR3.lt
        clear rR hr_E3 hg_E3
        have hv3 : v3 = 0 ∨ v3 = 1 ∨ v3 = 2 := by omega
        clear v30 v31
        rcases hv3 with rfl | rfl | rfl
        · have fx0 := E3.rp.cell 0 _ rfl
          have fxf0 := E3.rp.froz 0 (by simp)
          have fx1 := E3.rp.cell 1 _ rfl
          have fxf1 := E3.rp.froz 1 (by simp)
          have fx2 := E3.rp.cell 2 _ rfl
          have fxf2 := E3.rp.froz 2 (by simp)
          have fx3 := E3.rp.cell 3 _ rfl
          have fxf3 := E3.rp.froz 3 (by simp)
          have fxl := E3.rp.lt
          have fy0 := E3.ra.cell 0 _ rfl
          have fyf0 := E3.ra.froz 0 (by simp)
          have fy1 := E3.ra.cell 1 _ rfl
          have fyf1 := E3.ra.froz 1 (by simp)
          have fy2 := E3.ra.cell 2 _ rfl
          have fyf2 := E3.ra.froz 2 (by simp)
          have fy3 := E3.ra.cell 3 _ rfl
          have fyf3 := E3.ra.froz 3 (by simp)
          have fyl := E3.ra.lt
          have fpa := E3.pa
          have HF := hid (E3.set1 0)
          go_wp2
          refine bodyPost_ret (v := .tuple #[pageV k 0 m T, .int .i64 (wd : Int)]) (by simp [results, Tryd.results8, go_sem, fy0, fy1, fy2, fy3, fpa, fpa.symm]) rfl ⟨⟨_, _, _, _, _, rfl, by first | omega | (simp only [ByteArray.size_extract]; omega)⟩, ?_⟩
          exact (((HF.out.be.setCell (by show w.heap.size ≤ w.heap.size; omega) _).setCell (by show w.heap.size ≤ w.heap.size; omega) _).setCell (by show w.heap.size ≤ w.heap.size; omega) _).setCell (by show w.heap.size ≤ w.heap.size; omega) _
        · have fx0 := E3.rp.cell 0 _ rfl
          have fxf0 := E3.rp.froz 0 (by simp)
          have fx1 := E3.rp.cell 1 _ rfl
          have fxf1 := E3.rp.froz 1 (by simp)
          have fx2 := E3.rp.cell 2 _ rfl
          have fxf2 := E3.rp.froz 2 (by simp)
          have fx3 := E3.rp.cell 3 _ rfl
          have fxf3 := E3.rp.froz 3 (by simp)
          have fxl := E3.rp.lt
          have fy0 := E3.ra.cell 0 _ rfl
          have fyf0 := E3.ra.froz 0 (by simp)
          have fy1 := E3.ra.cell 1 _ rfl
          have fyf1 := E3.ra.froz 1 (by simp)
          have fy2 := E3.ra.cell 2 _ rfl
          have fyf2 := E3.ra.froz 2 (by simp)
          have fy3 := E3.ra.cell 3 _ rfl
          have fyf3 := E3.ra.froz 3 (by simp)
          have fyl := E3.ra.lt
          have fpa := E3.pa
          have HF := hid (E3.set1 (-1))
          go_wp2
          refine bodyPost_ret (v := .tuple #[pageV k (-1) m T, .int .i64 (wd : Int)]) (by simp [results, Tryd.results8, go_sem, fy0, fy1, fy2, fy3, fpa, fpa.symm]) rfl ⟨⟨_, _, _, _, _, rfl, by first | omega | (simp only [ByteArray.size_extract]; omega)⟩, ?_⟩
          exact (((HF.out.be.setCell (by show w.heap.size ≤ w.heap.size; omega) _).setCell (by show w.heap.size ≤ w.heap.size; omega) _).setCell (by show w.heap.size ≤ w.heap.size; omega) _).setCell (by show w.heap.size ≤ w.heap.size; omega) _
        · have fx0 := E3.rp.cell 0 _ rfl
          have fxf0 := E3.rp.froz 0 (by simp)
          have fx1 := E3.rp.cell 1 _ rfl
          have fxf1 := E3.rp.froz 1 (by simp)
          have fx2 := E3.rp.cell 2 _ rfl
          have fxf2 := E3.rp.froz 2 (by simp)
          have fx3 := E3.rp.cell 3 _ rfl
          have fxf3 := E3.rp.froz 3 (by simp)
          have fxl := E3.rp.lt
          have fy0 := E3.ra.cell 0 _ rfl
          have fyf0 := E3.ra.froz 0 (by simp)
          have fy1 := E3.ra.cell 1 _ rfl
          have fyf1 := E3.ra.froz 1 (by simp)
          have fy2 := E3.ra.cell 2 _ rfl
          have fyf2 := E3.ra.froz 2 (by simp)
          have fy3 := E3.ra.cell 3 _ rfl
          have fyf3 := E3.ra.froz 3 (by simp)
          have fyl := E3.ra.lt
          have fpa := E3.pa
          have HF := hid (E3.set1 60001)
          go_wp2
          refine bodyPost_ret (v := .tuple #[pageV k 60001 m T, .int .i64 (wd : Int)]) (by simp [results, Tryd.results8, go_sem, fy0, fy1, fy2, fy3, fpa, fpa.symm]) rfl ⟨⟨_, _, _, _, _, rfl, by first | omega | (simp only [ByteArray.size_extract]; omega)⟩, ?_⟩
          exact (((HF.out.be.setCell (by show w.heap.size ≤ w.heap.size; omega) _).setCell (by show w.heap.size ≤ w.heap.size; omega) _).setCell (by show w.heap.size ≤ w.heap.size; omega) _).setCell (by show w.heap.size ≤ w.heap.size; omega) _
      · go_wp2_with fail
        have rR := row_new w_E2 #[.int .i64 0, .int .i64 (-1), .int .i64 1000000001] 3
        refine (pick_r (w.heap.size + 1) a n' c' (q + 1 + 1) 3 _ (E2.below (below_nw _ (.cells #[.int .i64 0, .int .i64 (-1), .int .i64 1000000001] 3))).rd (by omega)).mono ?_
        rintro e w_E3 ⟨⟨v3, rfl, v30, v31⟩, hr_E3, hg_E3⟩
        have E3 := (E2.below (below_nw _ (.cells #[.int .i64 0, .int .i64 (-1), .int .i64 1000000001] 3))).pick hr_E3 hg_E3
        have lE2 := lt_of_cell E2.rd.pc
        have rR3 := rR.grown hg_E3 (fun e => by injection e with e; omega)
        have ar0 := rR3.cell 0 _ rfl
        have ar1 := rR3.cell 1 _ rfl
        have ar2 := rR3.cell 2 _ rfl
        have arl := rR3.lt
        clear rR hr_E3 hg_E3
        have hv3 : v3 = 0 ∨ v3 = 1 ∨ v3 = 2 := by omega
        clear v30 v31
        rcases hv3 with rfl | rfl | rfl
        · have fx0 := E3.rp.cell 0 _ rfl
          have fxf0 := E3.rp.froz 0 (by simp)
          have fx1 := E3.rp.cell 1 _ rfl
          have fxf1 := E3.rp.froz 1 (by simp)
          have fx2 := E3.rp.cell 2 _ rfl
          have fxf2 := E3.rp.froz 2 (by simp)
          have fx3 := E3.rp.cell 3 _ rfl
          have fxf3 := E3.rp.froz 3 (by simp)
          have fxl := E3.rp.lt
          have fy0 := E3.ra.cell 0 _ rfl
          have fyf0 := E3.ra.froz 0 (by simp)
          have fy1 := E3.ra.cell 1 _ rfl
          have fyf1 := E3.ra.froz 1 (by simp)
          have fy2 := E3.ra.cell 2 _ rfl
          have fyf2 := E3.ra.froz 2 (by simp)
          have fy3 := E3.ra.cell 3 _ rfl
          have fyf3 := E3.ra.froz 3 (by simp)
          have fyl := E3.ra.lt
          have fpa := E3.pa
          have HF := hid (E3.set2 0)
          go_wp2
          refine bodyPost_ret (v := .tuple #[pageV k l 0 T, .int .i64 (wd : Int)]) (by simp [results, Tryd.results8, go_sem, fy0, fy1, fy2, fy3, fpa, fpa.symm]) rfl ⟨⟨_, _, _, _, _, rfl, by first | omega | (simp only [ByteArray.size_extract]; omega)⟩, ?_⟩
          exact (((HF.out.be.setCell (by show w.heap.size ≤ w.heap.size; omega) _).setCell (by show w.heap.size ≤ w.heap.size; omega) _).setCell (by show w.heap.size ≤ w.heap.size; omega) _).setCell (by show w.heap.size ≤ w.heap.size; omega) _
        · have fx0 := E3.rp.cell 0 _ rfl
          have fxf0 := E3.rp.froz 0 (by simp)
          have fx1 := E3.rp.cell 1 _ rfl
          have fxf1 := E3.rp.froz 1 (by simp)
          have fx2 := E3.rp.cell 2 _ rfl
          have fxf2 := E3.rp.froz 2 (by simp)
          have fx3 := E3.rp.cell 3 _ rfl
          have fxf3 := E3.rp.froz 3 (by simp)
          have fxl := E3.rp.lt
          have fy0 := E3.ra.cell 0 _ rfl
          have fyf0 := E3.ra.froz 0 (by simp)
          have fy1 := E3.ra.cell 1 _ rfl
          have fyf1 := E3.ra.froz 1 (by simp)
          have fy2 := E3.ra.cell 2 _ rfl
          have fyf2 := E3.ra.froz 2 (by simp)
          have fy3 := E3.ra.cell 3 _ rfl
          have fyf3 := E3.ra.froz 3 (by simp)
          have fyl := E3.ra.lt
          have fpa := E3.pa
          have HF := hid (E3.set2 (-1))
          go_wp2
          refine bodyPost_ret (v := .tuple #[pageV k l (-1) T, .int .i64 (wd : Int)]) (by simp [results, Tryd.results8, go_sem, fy0, fy1, fy2, fy3, fpa, fpa.symm]) rfl ⟨⟨_, _, _, _, _, rfl, by first | omega | (simp only [ByteArray.size_extract]; omega)⟩, ?_⟩
          exact (((HF.out.be.setCell (by show w.heap.size ≤ w.heap.size; omega) _).setCell (by show w.heap.size ≤ w.heap.size; omega) _).setCell (by show w.heap.size ≤ w.heap.size; omega) _).setCell (by show w.heap.size ≤ w.heap.size; omega) _
        · have fx0 := E3.rp.cell 0 _ rfl
          have fxf0 := E3.rp.froz 0 (by simp)
          have fx1 := E3.rp.cell 1 _ rfl
          have fxf1 := E3.rp.froz 1 (by simp)
          have fx2 := E3.rp.cell 2 _ rfl
          have fxf2 := E3.rp.froz 2 (by simp)
          have fx3 := E3.rp.cell 3 _ rfl
          have fxf3 := E3.rp.froz 3 (by simp)
          have fxl := E3.rp.lt
          have fy0 := E3.ra.cell 0 _ rfl
          have fyf0 := E3.ra.froz 0 (by simp)
          have fy1 := E3.ra.cell 1 _ rfl
          have fyf1 := E3.ra.froz 1 (by simp)
          have fy2 := E3.ra.cell 2 _ rfl
          have fyf2 := E3.ra.froz 2 (by simp)
          have fy3 := E3.ra.cell 3 _ rfl
          have fyf3 := E3.ra.froz 3 (by simp)
          have fyl := E3.ra.lt
          have fpa := E3.pa
          have HF := hid (E3.set2 1000000001)
          go_wp2
          refine bodyPost_ret (v := .tuple #[pageV k l 1000000001 T, .int .i64 (wd : Int)]) (by simp [results, Tryd.results8, go_sem, fy0, fy1, fy2, fy3, fpa, fpa.symm]) rfl ⟨⟨_, _, _, _, _, rfl, by first | omega | (simp only [ByteArray.size_extract]; omega)⟩, ?_⟩
          exact (((HF.out.be.setCell (by show w.heap.size ≤ w.heap.size; omega) _).setCell (by show w.heap.size ≤ w.heap.size; omega) _).setCell (by show w.heap.size ≤ w.heap.size; omega) _).setCell (by show w.heap.size ≤ w.heap.size; omega) _
      · go_wp2_with fail
        refine (part_s (wd : Int) _ (by omega) (by omega)).mono ?_
        rintro e wz ⟨rfl, hwz⟩
        rw [hwz]
        clear hwz wz
        go_wp2_with fail
        refine (pick_r (w.heap.size + 1) a n' c' (q + 1 + 1) 2 _ (E2).rd (by omega)).mono ?_
        rintro e w_E3 ⟨⟨v3, rfl, v30, v31⟩, hr_E3, hg_E3⟩
        have E3 := (E2).pick hr_E3 hg_E3
        have hs3 : IntKind.i64.wrap (64 - (wd : Int) - 8 + v3) = 64 - (wd : Int) - 8 + v3 := wrap_i64_id _ (by omega) (by omega)
        go_wp2_with fail
        refine (many_r ⟨#[112]⟩ (64 - (wd : Int) - 8 + v3) _ (by decide) (by omega)).mono ?_
        rintro e w_E4 ⟨⟨t2, rfl, ht2⟩, hb_E4⟩
        have E4 := E3.below hb_E4
        have fx0 := E4.rp.cell 0 _ rfl
        have fxf0 := E4.rp.froz 0 (by simp)
        have fx1 := E4.rp.cell 1 _ rfl
        have fxf1 := E4.rp.froz 1 (by simp)
        have fx2 := E4.rp.cell 2 _ rfl
        have fxf2 := E4.rp.froz 2 (by simp)
        have fx3 := E4.rp.cell 3 _ rfl
        have fxf3 := E4.rp.froz 3 (by simp)
        have fxl := E4.rp.lt
        have fy0 := E4.ra.cell 0 _ rfl
        have fyf0 := E4.ra.froz 0 (by simp)
        have fy1 := E4.ra.cell 1 _ rfl
        have fyf1 := E4.ra.froz 1 (by simp)
        have fy2 := E4.ra.cell 2 _ rfl
        have fyf2 := E4.ra.froz 2 (by simp)
        have fy3 := E4.ra.cell 3 _ rfl
        have fyf3 := E4.ra.froz 3 (by simp)
        have fyl := E4.ra.lt
        have fpa := E4.pa
        have HF := hid (E4.set3 t2)
        go_wp2
        refine bodyPost_ret (v := .tuple #[pageV k l m t2, .int .i64 (wd : Int)]) (by simp [results, Tryd.results8, go_sem, fy0, fy1, fy2, fy3, fpa, fpa.symm]) rfl ⟨⟨_, _, _, _, _, rfl, by first | omega | (simp only [ByteArray.size_extract]; omega)⟩, ?_⟩
        exact (((HF.out.be.setCell (by show w.heap.size ≤ w.heap.size; omega) _).setCell (by show w.heap.size ≤ w.heap.size; omega) _).setCell (by show w.heap.size ≤ w.heap.size; omega) _).setCell (by show w.heap.size ≤ w.heap.size; omega) _
      · go_wp2_with fail
        have rR := row_new w_E2 #[.int .i64 0, .int .i64 9, .int .i64 (-1)] 3
        refine (pick_r (w.heap.size + 1) a n' c' (q + 1 + 1) 3 _ (E2.below (below_nw _ (.cells #[.int .i64 0, .int .i64 9, .int .i64 (-1)] 3))).rd (by omega)).mono ?_
        rintro e w_E3 ⟨⟨v3, rfl, v30, v31⟩, hr_E3, hg_E3⟩
        have E3 := (E2.below (below_nw _ (.cells #[.int .i64 0, .int .i64 9, .int .i64 (-1)] 3))).pick hr_E3 hg_E3
        have lE2 := lt_of_cell E2.rd.pc
        have rR3 := rR.grown hg_E3 (fun e => by injection e with e; omega)
        have ar0 := rR3.cell 0 _ rfl
        have ar1 := rR3.cell 1 _ rfl
        have ar2 := rR3.cell 2 _ rfl
        have arl := rR3.lt
        clear rR hr_E3 hg_E3
        have hv3 : v3 = 0 ∨ v3 = 1 ∨ v3 = 2 := by omega
        clear v30 v31
        rcases hv3 with rfl | rfl | rfl
        · have fx0 := E3.rp.cell 0 _ rfl
          have fxf0 := E3.rp.froz 0 (by simp)
          have fx1 := E3.rp.cell 1 _ rfl
          have fxf1 := E3.rp.froz 1 (by simp)
          have fx2 := E3.rp.cell 2 _ rfl
          have fxf2 := E3.rp.froz 2 (by simp)
          have fx3 := E3.rp.cell 3 _ rfl
          have fxf3 := E3.rp.froz 3 (by simp)
          have fxl := E3.rp.lt
          have fy0 := E3.ra.cell 0 _ rfl
          have fyf0 := E3.ra.froz 0 (by simp)
          have fy1 := E3.ra.cell 1 _ rfl
          have fyf1 := E3.ra.froz 1 (by simp)
          have fy2 := E3.ra.cell 2 _ rfl
          have fyf2 := E3.ra.froz 2 (by simp)
          have fy3 := E3.ra.cell 3 _ rfl
          have fyf3 := E3.ra.froz 3 (by simp)
          have fyl := E3.ra.lt
          have fpa := E3.pa
          have HF := hid E3
          go_wp2
          refine bodyPost_ret (v := .tuple #[pageV k l m T, .int .i64 0]) (by simp [results, Tryd.results8, go_sem, fy0, fy1, fy2, fy3, fpa, fpa.symm]) rfl ⟨⟨_, _, _, _, _, rfl, by first | omega | (simp only [ByteArray.size_extract]; omega)⟩, ?_⟩
          exact (((HF.out.be.setCell (by show w.heap.size ≤ w.heap.size; omega) _).setCell (by show w.heap.size ≤ w.heap.size; omega) _).setCell (by show w.heap.size ≤ w.heap.size; omega) _).setCell (by show w.heap.size ≤ w.heap.size; omega) _
        · have fx0 := E3.rp.cell 0 _ rfl
          have fxf0 := E3.rp.froz 0 (by simp)
          have fx1 := E3.rp.cell 1 _ rfl
          have fxf1 := E3.rp.froz 1 (by simp)
          have fx2 := E3.rp.cell 2 _ rfl
          have fxf2 := E3.rp.froz 2 (by simp)
          have fx3 := E3.rp.cell 3 _ rfl
          have fxf3 := E3.rp.froz 3 (by simp)
          have fxl := E3.rp.lt
          have fy0 := E3.ra.cell 0 _ rfl
          have fyf0 := E3.ra.froz 0 (by simp)
          have fy1 := E3.ra.cell 1 _ rfl
          have fyf1 := E3.ra.froz 1 (by simp)
          have fy2 := E3.ra.cell 2 _ rfl
          have fyf2 := E3.ra.froz 2 (by simp)
          have fy3 := E3.ra.cell 3 _ rfl
          have fyf3 := E3.ra.froz 3 (by simp)
          have fyl := E3.ra.lt
          have fpa := E3.pa
          have HF := hid E3
          go_wp2
          refine bodyPost_ret (v := .tuple #[pageV k l m T, .int .i64 9]) (by simp [results, Tryd.results8, go_sem, fy0, fy1, fy2, fy3, fpa, fpa.symm]) rfl ⟨⟨_, _, _, _, _, rfl, by first | omega | (simp only [ByteArray.size_extract]; omega)⟩, ?_⟩
          exact (((HF.out.be.setCell (by show w.heap.size ≤ w.heap.size; omega) _).setCell (by show w.heap.size ≤ w.heap.size; omega) _).setCell (by show w.heap.size ≤ w.heap.size; omega) _).setCell (by show w.heap.size ≤ w.heap.size; omega) _
        · have fx0 := E3.rp.cell 0 _ rfl
          have fxf0 := E3.rp.froz 0 (by simp)
          have fx1 := E3.rp.cell 1 _ rfl
          have fxf1 := E3.rp.froz 1 (by simp)
          have fx2 := E3.rp.cell 2 _ rfl
          have fxf2 := E3.rp.froz 2 (by simp)
          have fx3 := E3.rp.cell 3 _ rfl
          have fxf3 := E3.rp.froz 3 (by simp)
          have fxl := E3.rp.lt
          have fy0 := E3.ra.cell 0 _ rfl
          have fyf0 := E3.ra.froz 0 (by simp)
          have fy1 := E3.ra.cell 1 _ rfl
          have fyf1 := E3.ra.froz 1 (by simp)
          have fy2 := E3.ra.cell 2 _ rfl
          have fyf2 := E3.ra.froz 2 (by simp)
          have fy3 := E3.ra.cell 3 _ rfl
          have fyf3 := E3.ra.froz 3 (by simp)
          have fyl := E3.ra.lt
          have fpa := E3.pa
          have HF := hid E3
          go_wp2
          refine bodyPost_ret (v := .tuple #[pageV k l m T, .int .i64 (-1)]) (by simp [results, Tryd.results8, go_sem, fy0, fy1, fy2, fy3, fpa, fpa.symm]) rfl ⟨⟨_, _, _, _, _, rfl, by first | omega | (simp only [ByteArray.size_extract]; omega)⟩, ?_⟩
          exact (((HF.out.be.setCell (by show w.heap.size ≤ w.heap.size; omega) _).setCell (by show w.heap.size ≤ w.heap.size; omega) _).setCell (by show w.heap.size ≤ w.heap.size; omega) _).setCell (by show w.heap.size ≤ w.heap.size; omega) _
  · go_quiet ((go_at_call 14; exact Calls.quiet_of_same (part_s _ _ (by omega) (by omega))))
    have D1 := D0.below (below_drewN (Below.refl _ _) nq)
    go_wp2_with fail
    refine (pick_r (w.heap.size + 1) a n' c' (q) 3 _ D1.rd (by omega)).mono ?_
    rintro e w_E1 ⟨⟨v1, rfl, v10, v11⟩, hr_E1, hg_E1⟩
    have E1 := D1.pick hr_E1 hg_E1
    clear hr_E1 hg_E1
    by_cases hv1 : 0 < v1
    · have HF := hid E1
      have fx0 := HF.out.rp.cell 0 _ rfl
      have fx1 := HF.out.rp.cell 1 _ rfl
      have fx2 := HF.out.rp.cell 2 _ rfl
      have fx3 := HF.out.rp.cell 3 _ rfl
      have fxl := HF.out.rp.lt
      have fy0 := HF.out.ra.cell 0 _ rfl
      have fyf0 := HF.out.ra.froz 0 (by simp)
      have fy1 := HF.out.ra.cell 1 _ rfl
      have fyf1 := HF.out.ra.froz 1 (by simp)
      have fy2 := HF.out.ra.cell 2 _ rfl
      have fyf2 := HF.out.ra.froz 2 (by simp)
      have fy3 := HF.out.ra.cell 3 _ rfl
      have fyf3 := HF.out.ra.froz 3 (by simp)
      have fyl := HF.out.ra.lt
      go_wp2
      refine bodyPost_ret (v := .tuple #[pageV k l m t, .int .i64 (wd : Int)]) (by simp [results, Tryd.results8, go_sem, fy0, fy1, fy2, fy3]) rfl ⟨⟨_, _, _, _, _, rfl, by first | omega | (simp only [ByteArray.size_extract]; omega)⟩, ?_⟩
      exact (((HF.out.be.setCell (by show w.heap.size ≤ w.heap.size; omega) _).setCell (by show w.heap.size ≤ w.heap.size; omega) _).setCell (by show w.heap.size ≤ w.heap.size; omega) _).setCell (by show w.heap.size ≤ w.heap.size; omega) _
    obtain rfl : v1 = 0 := by omega
    go_wp2_with fail
    refine (pick_r (w.heap.size + 1) a n' c' (q + 1) 5 _ E1.rd (by omega)).mono ?_
    rintro e w_E2 ⟨⟨v2, rfl, v20, v21⟩, hr_E2, hg_E2⟩
    have E2 := E1.pick hr_E2 hg_E2
    clear hr_E2 hg_E2
    have hv2 : v2 = 0 ∨ v2 = 1 ∨ v2 = 2 ∨ v2 = 3 ∨ v2 = 4 := by omega
    clear v20 v21
    rcases hv2 with rfl | rfl | rfl | rfl | rfl
    · go_wp2_with fail
      refine (pick_r (w.heap.size + 1) a n' c' (q + 1 + 1) 7 _ (E2).rd (by omega)).mono ?_
      rintro e w_E3 ⟨⟨v3, rfl, v30, v31⟩, hr_E3, hg_E3⟩
      have E3 := (E2).pick hr_E3 hg_E3
      have hs3 : IntKind.i64.wrap (v3 - 1) = v3 - 1 := wrap_i64_id _ (by omega) (by omega)
      have E4 := E3.set0 (v3 - 1)
      have fx0 := E3.rp.cell 0 _ rfl
      have fxf0 := E3.rp.froz 0 (by simp)
      have fx1 := E3.rp.cell 1 _ rfl
      have fxf1 := E3.rp.froz 1 (by simp)
      have fx2 := E3.rp.cell 2 _ rfl
      have fxf2 := E3.rp.froz 2 (by simp)
      have fx3 := E3.rp.cell 3 _ rfl
      have fxf3 := E3.rp.froz 3 (by simp)
      have fxl := E3.rp.lt
      have fy0 := E3.ra.cell 0 _ rfl
      have fyf0 := E3.ra.froz 0 (by simp)
      have fy1 := E3.ra.cell 1 _ rfl
      have fyf1 := E3.ra.froz 1 (by simp)
      have fy2 := E3.ra.cell 2 _ rfl
      have fyf2 := E3.ra.froz 2 (by simp)
      have fy3 := E3.ra.cell 3 _ rfl
      have fyf3 := E3.ra.froz 3 (by simp)
      have fyl := E3.ra.lt
      have fpa := E3.pa
      have HF := hid E4
      go_wp2
      refine bodyPost_ret (v := .tuple #[pageV (v3 - 1) l m t, .int .i64 (wd : Int)]) (by simp [results, Tryd.results8, go_sem, fy0, fy1, fy2, fy3, fpa, fpa.symm]) rfl ⟨⟨_, _, _, _, _, rfl, by first | omega | (simp only [ByteArray.size_extract]; omega)⟩, ?_⟩
      exact (((HF.out.be.setCell (by show w.heap.size ≤ w.heap.size; omega) _).setCell (by show w.heap.size ≤ w.heap.size; omega) _).setCell (by show w.heap.size ≤ w.heap.size; omega) _).setCell (by show w.heap.size ≤ w.heap.size; omega) _
    · go_wp2_with fail
      have rR := row_new w_E2 #[.int .i64 0, .int .i64 (-1), .int .i64 60001] 3
      refine (pick_r (w.heap.size + 1) a n' c' (q + 1 + 1) 3 _ (E2.below (below_nw _ (.cells #[.int .i64 0, .int .i64 (-1), .int .i64 60001] 3))).rd (by omega)).mono ?_
      rintro e w_E3 ⟨⟨v3, rfl, v30, v31⟩, hr_E3, hg_E3⟩
      have E3 := (E2.below (below_nw _ (.cells #[.int .i64 0, .int .i64 (-1), .int .i64 60001] 3))).pick hr_E3 hg_E3
      have lE2 := lt_of_cell E2.rd.pc
      have rR3 := rR.grown hg_E3 (fun e => by injection e with e; omega)
      have ar0 := rR3.cell 0 _ rfl
      have ar1 := rR3.cell 1 _ rfl
      have ar2 := rR3.cell 2 _ rfl
      have arl := rR3.lt
      clear rR hr_E3 hg_E3
      have hv3 : v3 = 0 ∨ v3 = 1 ∨ v3 = 2 := by omega
      clear v30 v31
      rcases hv3 with rfl | rfl | rfl
      · have fx0 := E3.rp.cell 0 _ rfl
        have fxf0 := E3.rp.froz 0 (by simp)
        have fx1 := E3.rp.cell 1 _ rfl
        have fxf1 := E3.rp.froz 1 (by simp)
        have fx2 := E3.rp.cell 2 _ rfl
        have fxf2 := E3.rp.froz 2 (by simp)
        have fx3 := E3.rp.cell 3 _ rfl
        have fxf3 := E3.rp.froz 3 (by simp)
        have fxl := E3.rp.lt
        have fy0 := E3.ra.cell 0 _ rfl
        have fyf0 := E3.ra.froz 0 (by simp)
        have fy1 := E3.ra.cell 1 _ rfl
        have fyf1 := E3.ra.froz 1 (by simp)
        have fy2 := E3.ra.cell 2 _ rfl
        have fyf2 := E3.ra.froz 2 (by simp)
        have fy3 := E3.ra.cell 3 _ rfl
        have fyf3 := E3.ra.froz 3 (by simp)
        have fyl := E3.ra.lt
        have fpa := E3.pa
        have HF := hid (E3.set1 0)
        go_wp2
        refine bodyPost_ret (v := .tuple #[pageV k 0 m t, .int .i64 (wd : Int)]) (by simp [results, Tryd.results8, go_sem, fy0, fy1, fy2, fy3, fpa, fpa.symm]) rfl ⟨⟨_, _, _, _, _, rfl, by first | omega | (simp only [ByteArray.size_extract]; omega)⟩, ?_⟩
        exact (((HF.out.be.setCell (by show w.heap.size ≤ w.heap.size; omega) _).setCell (by show w.heap.size ≤ w.heap.size; omega) _).setCell (by show w.heap.size ≤ w.heap.size; omega) _).setCell (by show w.heap.size ≤ w.heap.size; omega) _
      · have fx0 := E3.rp.cell 0 _ rfl
        have fxf0 := E3.rp.froz 0 (by simp)
        have fx1 := E3.rp.cell 1 _ rfl
        have fxf1 := E3.rp.froz 1 (by simp)
        have fx2 := E3.rp.cell 2 _ rfl
        have fxf2 := E3.rp.froz 2 (by simp)
        have fx3 := E3.rp.cell 3 _ rfl
        have fxf3 := E3.rp.froz 3 (by simp)
        have fxl := E3.rp.lt
        have fy0 := E3.ra.cell 0 _ rfl
        have fyf0 := E3.ra.froz 0 (by simp)
        have fy1 := E3.ra.cell 1 _ rfl
        have fyf1 := E3.ra.froz 1 (by simp)
        have fy2 := E3.ra.cell 2 _ rfl
        have fyf2 := E3.ra.froz 2 (by simp)
        have fy3 := E3.ra.cell 3 _ rfl
        have fyf3 := E3.ra.froz 3 (by simp)
        have fyl := E3.ra.lt
        have fpa := E3.pa
        have HF := hid (E3.set1 (-1))
        go_wp2
        refine bodyPost_ret (v := .tuple #[pageV k (-1) m t, .int .i64 (wd : Int)]) (by simp [results, Tryd.results8, go_sem, fy0, fy1, fy2, fy3, fpa, fpa.symm]) rfl ⟨⟨_, _, _, _, _, rfl, by first | omega | (simp only [ByteArray.size_extract]; omega)⟩, ?_⟩
        exact (((HF.out.be.setCell (by show w.heap.size ≤ w.heap.size; omega) _).setCell (by show w.heap.size ≤ w.heap.size; omega) _).setCell (by show w.heap.size ≤ w.heap.size; omega) _).setCell (by show w.heap.size ≤ w.heap.size; omega) _
      · have fx0 := E3.rp.cell 0 _ rfl
        have fxf0 := E3.rp.froz 0 (by simp)
        have fx1 := E3.rp.cell 1 _ rfl
        have fxf1 := E3.rp.froz 1 (by simp)
        have fx2 := E3.rp.cell 2 _ rfl
        have fxf2 := E3.rp.froz 2 (by simp)
        have fx3 := E3.rp.cell 3 _ rfl
        have fxf3 := E3.rp.froz 3 (by simp)
        have fxl := E3.rp.lt
        have fy0 := E3.ra.cell 0 _ rfl
        have fyf0 := E3.ra.froz 0 (by simp)
        have fy1 := E3.ra.cell 1 _ rfl
        have fyf1 := E3.ra.froz 1 (by simp)
        have fy2 := E3.ra.cell 2 _ rfl
        have fyf2 := E3.ra.froz 2 (by simp)
        have fy3 := E3.ra.cell 3 _ rfl
        have fyf3 := E3.ra.froz 3 (by simp)
        have fyl := E3.ra.lt
        have fpa := E3.pa
        have HF := hid (E3.set1 60001)
        go_wp2
        refine bodyPost_ret (v := .tuple #[pageV k 60001 m t, .int .i64 (wd : Int)]) (by simp [results, Tryd.results8, go_sem, fy0, fy1, fy2, fy3, fpa, fpa.symm]) rfl ⟨⟨_, _, _, _, _, rfl, by first | omega | (simp only [ByteArray.size_extract]; omega)⟩, ?_⟩
        exact (((HF.out.be.setCell (by show w.heap.size ≤ w.heap.size; omega) _).setCell (by show w.heap.size ≤ w.heap.size; omega) _).setCell (by show w.heap.size ≤ w.heap.size; omega) _).setCell (by show w.heap.size ≤ w.heap.size; omega) _
    · go_wp2_with fail
      have rR := row_new w_E2 #[.int .i64 0, .int .i64 (-1), .int .i64 1000000001] 3
      refine (pick_r (w.heap.size + 1) a n' c' (q + 1 + 1) 3 _ (E2.below (below_nw _ (.cells #[.int .i64 0, .int .i64 (-1), .int .i64 1000000001] 3))).rd (by omega)).mono ?_
      rintro e w_E3 ⟨⟨v3, rfl, v30, v31⟩, hr_E3, hg_E3⟩
      have E3 := (E2.below (below_nw _ (.cells #[.int .i64 0, .int .i64 (-1), .int .i64 1000000001] 3))).pick hr_E3 hg_E3
      have lE2 := lt_of_cell E2.rd.pc
      have rR3 := rR.grown hg_E3 (fun e => by injection e with e; omega)
      have ar0 := rR3.cell 0 _ rfl
      have ar1 := rR3.cell 1 _ rfl
      have ar2 := rR3.cell 2 _ rfl
      have arl := rR3.lt
      clear rR hr_E3 hg_E3
      have hv3 : v3 = 0 ∨ v3 = 1 ∨ v3 = 2 := by omega
      clear v30 v31
      rcases hv3 with rfl | rfl | rfl
      · have fx0 := E3.rp.cell 0 _ rfl
        have fxf0 := E3.rp.froz 0 (by simp)
        have fx1 := E3.rp.cell 1 _ rfl
        have fxf1 := E3.rp.froz 1 (by simp)
        have fx2 := E3.rp.cell 2 _ rfl
        have fxf2 := E3.rp.froz 2 (by simp)
        have fx3 := E3.rp.cell 3 _ rfl
        have fxf3 := E3.rp.froz 3 (by simp)
        have fxl := E3.rp.lt
        have fy0 := E3.ra.cell 0 _ rfl
        have fyf0 := E3.ra.froz 0 (by simp)
        have fy1 := E3.ra.cell 1 _ rfl
        have fyf1 := E3.ra.froz 1 (by simp)
        have fy2 := E3.ra.cell 2 _ rfl
        have fyf2 := E3.ra.froz 2 (by simp)
        have fy3 := E3.ra.cell 3 _ rfl
        have fyf3 := E3.ra.froz 3 (by simp)
        have fyl := E3.ra.lt
        have fpa := E3.pa
        have HF := hid (E3.set2 0)
        go_wp2
        refine bodyPost_ret (v := .tuple #[pageV k l 0 t, .int .i64 (wd : Int)]) (by simp [results, Tryd.results8, go_sem, fy0, fy1, fy2, fy3, fpa, fpa.symm]) rfl ⟨⟨_, _, _, _, _, rfl, by first | omega | (simp only [ByteArray.size_extract]; omega)⟩, ?_⟩
        exact (((HF.out.be.setCell (by show w.heap.size ≤ w.heap.size; omega) _).setCell (by show w.heap.size ≤ w.heap.size; omega) _).setCell (by show w.heap.size ≤ w.heap.size; omega) _).setCell (by show w.heap.size ≤ w.heap.size; omega) _
      · have fx0 := E3.rp.cell 0 _ rfl
        have fxf0 := E3.rp.froz 0 (by simp)
        have fx1 := E3.rp.cell 1 _ rfl
        have fxf1 := E3.rp.froz 1 (by simp)
        have fx2 := E3.rp.cell 2 _ rfl
        have fxf2 := E3.rp.froz 2 (by simp)
        have fx3 := E3.rp.cell 3 _ rfl
        have fxf3 := E3.rp.froz 3 (by simp)
        have fxl := E3.rp.lt
        have fy0 := E3.ra.cell 0 _ rfl
        have fyf0 := E3.ra.froz 0 (by simp)
        have fy1 := E3.ra.cell 1 _ rfl
        have fyf1 := E3.ra.froz 1 (by simp)
        have fy2 := E3.ra.cell 2 _ rfl
        have fyf2 := E3.ra.froz 2 (by simp)
        have fy3 := E3.ra.cell 3 _ rfl
        have fyf3 := E3.ra.froz 3 (by simp)
        have fyl := E3.ra.lt
        have fpa := E3.pa
        have HF := hid (E3.set2 (-1))
        go_wp2
        refine bodyPost_ret (v := .tuple #[pageV k l (-1) t, .int .i64 (wd : Int)]) (by simp [results, Tryd.results8, go_sem, fy0, fy1, fy2, fy3, fpa, fpa.symm]) rfl ⟨⟨_, _, _, _, _, rfl, by first | omega | (simp only [ByteArray.size_extract]; omega)⟩, ?_⟩
        exact (((HF.out.be.setCell (by show w.heap.size ≤ w.heap.size; omega) _).setCell (by show w.heap.size ≤ w.heap.size; omega) _).setCell (by show w.heap.size ≤ w.heap.size; omega) _).setCell (by show w.heap.size ≤ w.heap.size; omega) _
      · have fx0 := E3.rp.cell 0 _ rfl
        have fxf0 := E3.rp.froz 0 (by simp)
        have fx1 := E3.rp.cell 1 _ rfl
        have fxf1 := E3.rp.froz 1 (by simp)
        have fx2 := E3.rp.cell 2 _ rfl
        have fxf2 := E3.rp.froz 2 (by simp)
        have fx3 := E3.rp.cell 3 _ rfl
        have fxf3 := E3.rp.froz 3 (by simp)
        have fxl := E3.rp.lt
        have fy0 := E3.ra.cell 0 _ rfl
        have fyf0 := E3.ra.froz 0 (by simp)
        have fy1 := E3.ra.cell 1 _ rfl
        have fyf1 := E3.ra.froz 1 (by simp)
        have fy2 := E3.ra.cell 2 _ rfl
        have fyf2 := E3.ra.froz 2 (by simp)
        have fy3 := E3.ra.cell 3 _ rfl
        have fyf3 := E3.ra.froz 3 (by simp)
        have fyl := E3.ra.lt
        have fpa := E3.pa
        have HF := hid (E3.set2 1000000001)
        go_wp2
        refine bodyPost_ret (v := .tuple #[pageV k l 1000000001 t, .int .i64 (wd : Int)]) (by simp [results, Tryd.results8, go_sem, fy0, fy1, fy2, fy3, fpa, fpa.symm]) rfl ⟨⟨_, _, _, _, _, rfl, by first | omega | (simp only [ByteArray.size_extract]; omega)⟩, ?_⟩
        exact (((HF.out.be.setCell (by show w.heap.size ≤ w.heap.size; omega) _).setCell (by show w.heap.size ≤ w.heap.size; omega) _).setCell (by show w.heap.size ≤ w.heap.size; omega) _).setCell (by show w.heap.size ≤ w.heap.size; omega) _
    · go_wp2_with fail
      refine (part_s (wd : Int) _ (by omega) (by omega)).mono ?_
      rintro e wz ⟨rfl, hwz⟩
      rw [hwz]
      clear hwz wz
      go_wp2_with fail
      refine (pick_r (w.heap.size + 1) a n' c' (q + 1 + 1) 2 _ (E2).rd (by omega)).mono ?_
      rintro e w_E3 ⟨⟨v3, rfl, v30, v31⟩, hr_E3, hg_E3⟩
      have E3 := (E2).pick hr_E3 hg_E3
      have hs3 : IntKind.i64.wrap (64 - (wd : Int) - 8 + v3) = 64 - (wd : Int) - 8 + v3 := wrap_i64_id _ (by omega) (by omega)
      go_wp2_with fail
      refine (many_r ⟨#[112]⟩ (64 - (wd : Int) - 8 + v3) _ (by decide) (by omega)).mono ?_
      rintro e w_E4 ⟨⟨t2, rfl, ht2⟩, hb_E4⟩
      have E4 := E3.below hb_E4
      have fx0 := E4.rp.cell 0 _ rfl
      have fxf0 := E4.rp.froz 0 (by simp)
      have fx1 := E4.rp.cell 1 _ rfl
      have fxf1 := E4.rp.froz 1 (by simp)
      have fx2 := E4.rp.cell 2 _ rfl
      have fxf2 := E4.rp.froz 2 (by simp)
      have fx3 := E4.rp.cell 3 _ rfl
      have fxf3 := E4.rp.froz 3 (by simp)
      have fxl := E4.rp.lt
      have fy0 := E4.ra.cell 0 _ rfl
      have fyf0 := E4.ra.froz 0 (by simp)
      have fy1 := E4.ra.cell 1 _ rfl
      have fyf1 := E4.ra.froz 1 (by simp)
      have fy2 := E4.ra.cell 2 _ rfl
      have fyf2 := E4.ra.froz 2 (by simp)
      have fy3 := E4.ra.cell 3 _ rfl
      have fyf3 := E4.ra.froz 3 (by simp)
      have fyl := E4.ra.lt
      have fpa := E4.pa
      have HF := hid (E4.set3 t2)
      go_wp2
      refine bodyPost_ret (v := .tuple #[pageV k l m t2, .int .i64 (wd : Int)]) (by simp [results, Tryd.results8, go_sem, fy0, fy1, fy2, fy3, fpa, fpa.symm]) rfl ⟨⟨_, _, _, _, _, rfl, by first | omega | (simp only [ByteArray.size_extract]; omega)⟩, ?_⟩
      exact (((HF.out.be.setCell (by show w.heap.size ≤ w.heap.size; omega) _).setCell (by show w.heap.size ≤ w.heap.size; omega) _).setCell (by show w.heap.size ≤ w.heap.size; omega) _).setCell (by show w.heap.size ≤ w.heap.size; omega) _
    · go_wp2_with fail
      have rR := row_new w_E2 #[.int .i64 0, .int .i64 9, .int .i64 (-1)] 3
      refine (pick_r (w.heap.size + 1) a n' c' (q + 1 + 1) 3 _ (E2.below (below_nw _ (.cells #[.int .i64 0, .int .i64 9, .int .i64 (-1)] 3))).rd (by omega)).mono ?_
      rintro e w_E3 ⟨⟨v3, rfl, v30, v31⟩, hr_E3, hg_E3⟩
      have E3 := (E2.below (below_nw _ (.cells #[.int .i64 0, .int .i64 9, .int .i64 (-1)] 3))).pick hr_E3 hg_E3
      have lE2 := lt_of_cell E2.rd.pc
      have rR3 := rR.grown hg_E3 (fun e => by injection e with e; omega)
      have ar0 := rR3.cell 0 _ rfl
      have ar1 := rR3.cell 1 _ rfl
      have ar2 := rR3.cell 2 _ rfl
      have arl := rR3.lt
      clear rR hr_E3 hg_E3
      have hv3 : v3 = 0 ∨ v3 = 1 ∨ v3 = 2 := by omega
      clear v30 v31
      rcases hv3 with rfl | rfl | rfl
      · have fx0 := E3.rp.cell 0 _ rfl
        have fxf0 := E3.rp.froz 0 (by simp)
        have fx1 := E3.rp.cell 1 _ rfl
        have fxf1 := E3.rp.froz 1 (by simp)
        have fx2 := E3.rp.cell 2 _ rfl
        have fxf2 := E3.rp.froz 2 (by simp)
        have fx3 := E3.rp.cell 3 _ rfl
        have fxf3 := E3.rp.froz 3 (by simp)
        have fxl := E3.rp.lt
        have fy0 := E3.ra.cell 0 _ rfl
        have fyf0 := E3.ra.froz 0 (by simp)
        have fy1 := E3.ra.cell 1 _ rfl
        have fyf1 := E3.ra.froz 1 (by simp)
        have fy2 := E3.ra.cell 2 _ rfl
        have fyf2 := E3.ra.froz 2 (by simp)
        have fy3 := E3.ra.cell 3 _ rfl
        have fyf3 := E3.ra.froz 3 (by simp)
        have fyl := E3.ra.lt
        have fpa := E3.pa
        have HF := hid E3
        go_wp2
        refine bodyPost_ret (v := .tuple #[pageV k l m t, .int .i64 0]) (by simp [results, Tryd.results8, go_sem, fy0, fy1, fy2, fy3, fpa, fpa.symm]) rfl ⟨⟨_, _, _, _, _, rfl, by first | omega | (simp only [ByteArray.size_extract]; omega)⟩, ?_⟩
        exact (((HF.out.be.setCell (by show w.heap.size ≤ w.heap.size; omega) _).setCell (by show w.heap.size ≤ w.heap.size; omega) _).setCell (by show w.heap.size ≤ w.heap.size; omega) _).setCell (by show w.heap.size ≤ w.heap.size; omega) _
      · have fx0 := E3.rp.cell 0 _ rfl
        have fxf0 := E3.rp.froz 0 (by simp)
        have fx1 := E3.rp.cell 1 _ rfl
        have fxf1 := E3.rp.froz 1 (by simp)
        have fx2 := E3.rp.cell 2 _ rfl
        have fxf2 := E3.rp.froz 2 (by simp)
        have fx3 := E3.rp.cell 3 _ rfl
        have fxf3 := E3.rp.froz 3 (by simp)
        have fxl := E3.rp.lt
        have fy0 := E3.ra.cell 0 _ rfl
        have fyf0 := E3.ra.froz 0 (by simp)
        have fy1 := E3.ra.cell 1 _ rfl
        have fyf1 := E3.ra.froz 1 (by simp)
        have fy2 := E3.ra.cell 2 _ rfl
        have fyf2 := E3.ra.froz 2 (by simp)
        have fy3 := E3.ra.cell 3 _ rfl
        have fyf3 := E3.ra.froz 3 (by simp)
        have fyl := E3.ra.lt
        have fpa := E3.pa
        have HF := hid E3
        go_wp2
        refine bodyPost_ret (v := .tuple #[pageV k l m t, .int .i64 9]) (by simp [results, Tryd.results8, go_sem, fy0, fy1, fy2, fy3, fpa, fpa.symm]) rfl ⟨⟨_, _, _, _, _, rfl, by first | omega | (simp only [ByteArray.size_extract]; omega)⟩, ?_⟩
        exact (((HF.out.be.setCell (by show w.heap.size ≤ w.heap.size; omega) _).setCell (by show w.heap.size ≤ w.heap.size; omega) _).setCell (by show w.heap.size ≤ w.heap.size; omega) _).setCell (by show w.heap.size ≤ w.heap.size; omega) _
      · have fx0 := E3.rp.cell 0 _ rfl
        have fxf0 := E3.rp.froz 0 (by simp)
        have fx1 := E3.rp.cell 1 _ rfl
        have fxf1 := E3.rp.froz 1 (by simp)
        have fx2 := E3.rp.cell 2 _ rfl
        have fxf2 := E3.rp.froz 2 (by simp)
        have fx3 := E3.rp.cell 3 _ rfl
        have fxf3 := E3.rp.froz 3 (by simp)
        have fxl := E3.rp.lt
        have fy0 := E3.ra.cell 0 _ rfl
        have fyf0 := E3.ra.froz 0 (by simp)
        have fy1 := E3.ra.cell 1 _ rfl
        have fyf1 := E3.ra.froz 1 (by simp)
        have fy2 := E3.ra.cell 2 _ rfl
        have fyf2 := E3.ra.froz 2 (by simp)
        have fy3 := E3.ra.cell 3 _ rfl
        have fyf3 := E3.ra.froz 3 (by simp)
        have fyl := E3.ra.lt
        have fpa := E3.pa
        have HF := hid E3
        go_wp2
        refine bodyPost_ret (v := .tuple #[pageV k l m t, .int .i64 (-1)]) (by simp [results, Tryd.results8, go_sem, fy0, fy1, fy2, fy3, fpa, fpa.symm]) rfl ⟨⟨_, _, _, _, _, rfl, by first | omega | (simp only [ByteArray.size_extract]; omega)⟩, ?_⟩
        exact (((HF.out.be.setCell (by show w.heap.size ≤ w.heap.size; omega) _).setCell (by show w.heap.size ≤ w.heap.size; omega) _).setCell (by show w.heap.size ≤ w.heap.size; omega) _).setCell (by show w.heap.size ≤ w.heap.size; omega) _
end Go.Proofs.YtnmaknnnmjfhkacDoor
