import Derived.Test.YtnmaknnnmjfhkadAnE
import Derived.Deep.Cut
import Derived.Deep.CutRange
import Derived.WalkLawsBesides
import Derived.Laws.BytesArg
namespace Go.Proofs.Ytnmaknnnmjfhkad
open Go.RowKit
set_option maxRecDepth 8000
set_option linter.unusedVariables false
set_option linter.unusedSimpArgs false

theorem bytes_2 (w : World) (b : Nat) (n m : Int) (h : w.cell? ⟨b, 0, none⟩ = some (.int .u8 n)) (h2 : w.cell? ⟨b, 1, none⟩ = some (.int .u8 m)) : (convert 22 9 (.slice (some ⟨b, 0, none⟩) 2 2)).run Try.prog w = .ok (.string (strOfNums [n, m])) w :=
  run_convert_bytes_arg (P := Try.prog) _ 22 5 Try.underlying22 Try.underlying5 b 0 2 2 [n, m] rfl (fun i hi => by
    have : i = 0 ∨ i = 1 := by omega
    rcases this with rfl | rfl
    · simpa using h
    · simpa using h2) 9 Try.underlying9
theorem news_2 (w : World) (A : Obj) (cs : Array Value) (t : TypeId) : ∀ j u, cs.toList[j]? = some u → ((w.alloc A).alloc (.cells cs t)).cell? ((⟨w.heap.size + 1, 0, none⟩ : Addr).add j) = some u := by
  have h := heap_alloc_new (w.alloc A) (.cells cs t)
  rw [World.size_alloc] at h
  exact World.news_of_block h
theorem AnS.fin {w0 w : World} {R : Nat} {a : Option Addr} {n c : Nat} {q : Int} {RB SB : Nat} {y : Value} {rs : List Pr} (h : AnS w0 w R a n c q RB SB y rs) : (w.setCell ⟨RB, 0, none⟩ y).ownsRow w0.heap.size 101 2 y rs.length (prcells rs) ∧ Rdr (w.setCell ⟨RB, 0, none⟩ y) R a n c q ∧ w0.grownBy (w.setCell ⟨RB, 0, none⟩ y) (some R) :=
  ⟨ownsRow_setCell_other h.x.s.own h.ro _, h.rd.keep h.x.s.lR h.x.s.ga ((Below.refl _ _).setCell h.b0 _), grown_setN h.x.s.gr _ h.b0 _⟩
theorem ten_parts (i : Nat) (h : i ≤ 1000) : ∃ u v : Int, (i : Int).tdiv 10 = u ∧ (i : Int) / 10 = u ∧ (i : Int).tmod 10 = v ∧ (i : Int) % 10 = v ∧ 0 ≤ u ∧ u ≤ 100 ∧ 0 ≤ v ∧ v ≤ 9 := by
  refine ⟨((i / 10 : Nat) : Int), ((i % 10 : Nat) : Int), ?_, by omega, ?_, by omega, by omega, by omega, by omega, by omega⟩
  · rw [Int.tdiv_eq_ediv_of_nonneg (by omega)]; omega
  · rw [Int.tmod_eq_emod_of_nonneg (by omega)]; omega
set_option maxHeartbeats 64000000 in
theorem any_r (R : Nat) (a : Option Addr) (n c : Nat) (p : Int) (w : World) (h : Rdr w R a n c p) (hp : p < 99900000) : Calls Try.prog 51 #[.pointer (some ⟨R, 0, none⟩)] w fun e w' => (∃ y rs, e = .returned (.agg #[y]) ∧ w'.ownsRow w.heap.size 101 2 y rs.length (prcells rs) ∧ rs.length ≤ 102 ∧ psLe rs 64000 64000) ∧ RdTo w R a n c p 9000 w' := by
  have p0 := h.p0
  obtain ⟨i0, hi0, hz0, hz1, hz2⟩ := info_partsP info_prC
  have HI := hid (And.intro hi0 (And.intro hz0 (And.intro hz1 hz2)))
  clear hi0 hz0 hz1 hz2
  have D0 : AnS w ((w.alloc (.cells #[.slice none 0 0] 25)).alloc (.cells #[.slice none 0 0] 25)) R a n c p w.heap.size (w.heap.size + 1) (.slice none 0 0) [] := by
    have hb1 := below_nw w (.cells #[.slice none 0 0] 25)
    have hb2 := below_nw (w.alloc (.cells #[.slice none 0 0] 25)) (.cells #[.slice none 0 0] 25)
    have hb : Below w.heap.size w ((w.alloc (.cells #[.slice none 0 0] 25)).alloc (.cells #[.slice none 0 0] 25)) := hb1.trans (hb2.mono (by simp))
    refine ⟨⟨⟨(h.below hb1).below hb2, World.ownsRow_nil _ _ _ _, grown_of_below _ hb, h.lts.1, h.lts.2⟩, ?_, fun e => (by cases e), by omega⟩, (row_new _ _ _).alloc _, fun e => (by cases e), Nat.le_refl _, by omega⟩
    have := row_new (w.alloc (.cells #[.slice none 0 0] 25)) #[.slice none 0 0] 25
    rwa [World.size_alloc] at this
  clear h
  go_enter Try.func51, Try.ntmps51
  go_wp2_with fail
  refine (pick_r R a n c p 4 _ D0.rd (by omega)).mono ?_
  rintro e w1 ⟨⟨v, rfl, v0, v1⟩, hr1, hg1⟩
  have D1 := D0.pick hr1 hg1
  clear D0 hr1 hg1
  obtain ⟨RB, e_RB⟩ : ∃ z, z = w.heap.size := ⟨_, rfl⟩
  obtain ⟨SB, e_SB⟩ : ∃ z, z = w.heap.size + 1 := ⟨_, rfl⟩
  rw [← e_SB, ← e_RB] at D1
  rw [← e_SB, ← e_RB]
  have HE := hid (And.intro e_RB e_SB)
  clear e_RB e_SB
  go_wp2_with fail
  refine (pick_r R a n c (p + 1) 4 _ D1.rd (by omega)).mono ?_
  rintro e w2 ⟨⟨u, rfl, u0, u1⟩, hr2, hg2⟩
  have D2 := D1.pick hr2 hg2
  clear D1 hr2 hg2
  go_upto_if 17 with fail
  go_cut [4] from 15 to 17 (fun nv wx => ∃ N : Int, nv = .int .i64 N ∧ 0 ≤ N ∧ N ≤ 10 ∧ wx = w2)
  case first =>
    by_cases hu : u = 0
    · subst hu
      go_wp2_with fail
      go_meet
      exact ⟨10, rfl, by omega, by omega, rfl⟩
    · go_wp2_with fail
      go_meet
      exact ⟨v, rfl, by omega, by omega, rfl⟩
  case rest =>
  obtain ⟨N, rfl, N0, N1, rfl⟩ := hcut
  clear u0 u1 v0 v1
  go_wp2
  go_loopw [4] (fun nv wr => ∃ (m q : Int) (rs : List Pr) (Y : Value) (W : World), W = wr ∧ nv = .int .i64 m ∧ 0 ≤ m ∧ m ≤ 10 ∧ p ≤ q ∧ q ≤ p + 2 + 650 * (10 - m) ∧ stateOk rs = true ∧ AnS w W R a n c q RB SB Y rs) (fun nv _ => (intOf nv).toNat)
  case atStart => exact ⟨N, p + 1 + 1, [], _, _, rfl, rfl, N0, N1, by omega, by omega, by decide, D2⟩
  case round =>
    obtain ⟨m, q, rs, y, wr, rfl, rfl, m0, m1, q0, q1, hok, D⟩ := hrel
    clear D2
    have hps := psLe_ok hok
    have hrl : rs.length ≤ 100 := ((stateOk_iff rs).1 hok).1
    obtain ⟨ya, yc, rfl, _⟩ := owns_prs D.x.s.own
    by_cases hm : 0 < m
    · have hmw : IntKind.i64.wrap (m - 1) = m - 1 := wrap_i64_id _ (by omega) (by omega)
      go_upto_region 7 with fail
      go_cut [5, 6] from 18 to 31 (fun xv cv wx => ∃ (X : Nat) (cd q2 : Int) (rs2 : List Pr) (y2 : Value), xv = .pointer (some ⟨X, 0, none⟩) ∧ cv = .int .i64 cd ∧ q ≤ q2 ∧ q2 ≤ q + 600 ∧ (cd = 0 → stateOk rs2 = true) ∧ AnS w wx R a n c q2 RB SB (.slice ya rs.length yc) rs ∧ Row wx X [y2] ∧ X ≠ SB ∧ wx.ownsRow w.heap.size 101 2 y2 rs2.length (prcells rs2) ∧ y2.ownBlock ≠ some RB ∧ y2.ownBlock ≠ some SB)
      case first =>
        refine wp_region_held_drew (S := fun w' => w'.cell? ⟨SB, 0, none⟩ = some (.slice ya rs.length yc)) (by kernel_rfl) (D.drew.x.row.cell 0 _ rfl) (fun hHeld => ?_)
        refine wpAnyH_take (i := 0) (v := .agg #[.slice ya rs.length yc]) rfl (by kernel_rfl) (by kernel_rfl) (by kernel_rfl) (fun _ _ _ h => h) (Or.inl ⟨by rfl, fun w hw => by obtain z0 := hw; go_simp⟩) hHeld ?_
        simp only [Act.put, List.getElem_toArray, List.getElem_cons_zero, List.getElem_cons_succ, List.setIfInBounds_toArray, List.set_cons_zero, List.set_cons_succ]
        refine wpAnyH_take (i := 1) (v := .pointer (some ⟨R, 0, none⟩)) rfl (by kernel_rfl) (by kernel_rfl) (by kernel_rfl) (fun _ _ _ h => h) (Or.inl ⟨by rfl, fun w hw => by obtain z0 := hw; go_simp⟩) hHeld ?_
        simp only [Act.put, List.getElem_toArray, List.getElem_cons_zero, List.getElem_cons_succ, List.setIfInBounds_toArray, List.set_cons_zero, List.set_cons_succ]
        refine wpAnyH_ready (rs := [2, 7]) (by kernel_rfl) (by simp) ?_
        refine AllReadyH.cons rfl (fun K hK => ?_) (AllReadyH.cons rfl (fun K hK => ?_) AllReadyH.nil)
        · refine step_call (by rfl) 52 #[.pointer (some ⟨R, 0, none⟩)] (by go_simp) (batch_r R a n c q _ D.drew.rd (by omega)) ?_
          rintro e w4 ⟨⟨bv, b, rfl, hob, ⟨hb1, hb2⟩, hble⟩, ⟨q2, q20, q21, hr4⟩, hg4⟩
          refine ⟨_, rfl, ?_⟩
          have F2 := D.drew.pick hr4 hg4
          obtain ⟨ba, bc, rfl⟩ := owns_slice hob
          clear hr4 hg4
          refine hK.out _ _ (F2.x.row.cell 0 _ rfl) (fun hHd1 => ?_)
          clear hK K
          try simp only [Act.put, List.getElem_toArray, List.getElem_cons_zero, List.getElem_cons_succ, List.setIfInBounds_toArray, List.set_cons_zero, List.set_cons_succ]
          refine wpAnyH_ready (rs := [3, 7]) (by kernel_rfl) (by simp) ?_
          refine AllReadyH.cons rfl (fun K hK => ?_) (AllReadyH.cons rfl (fun K hK => ?_) AllReadyH.nil)
          · have hob' := hob
            refine step_call (by rfl) 11 #[.agg #[.slice ya rs.length yc], .slice ba b.length bc] (by go_simp) (apply_so ya rs yc ba b bc _ (prs_own F2.x.s.own) (by omega) (fun x hx => by have := hps x hx; omega) (chs_own hob') (by omega) (fun x hx => by have := hble x hx; omega)) ?_
            have lS := F2.x.row.lt
            have lB := F2.rb.lt
            rintro e w5 ⟨a2, c2, rfl, hown2, hb5⟩
            refine ⟨_, rfl, ?_⟩
            have F3 := F2.below hb5
            have n1 : (Value.slice a2 (apR rs b).length c2).ownBlock ≠ some RB := fun e => by have := (hown2.lt _ e).1; omega
            have n2 : (Value.slice a2 (apR rs b).length c2).ownBlock ≠ some SB := fun e => by have := (hown2.lt _ e).1; omega
            have hown3 := own_baseA hown2 F2.lt
            refine hK.out _ _ (F3.x.row.cell 0 _ rfl) (fun hHd2 => ?_)
            clear hK K
            try simp only [Act.put, List.getElem_toArray, List.getElem_cons_zero, List.getElem_cons_succ, List.setIfInBounds_toArray, List.set_cons_zero, List.set_cons_succ]
            refine wpAnyH_take (i := 4) (v := .tuple #[.agg #[.slice a2 (apR rs b).length c2], .int .i64 (apC rs b)]) rfl (by kernel_rfl) (by kernel_rfl) (by kernel_rfl) (fun _ _ _ h => h) (Or.inl ⟨by rfl, fun w hw => by obtain z0 := hw; go_simp⟩) hHd2 ?_
            simp only [Act.put, List.getElem_toArray, List.getElem_cons_zero, List.getElem_cons_succ, List.setIfInBounds_toArray, List.set_cons_zero, List.set_cons_succ]
            refine wpAnyH_take (i := 5) (v := .agg #[.slice a2 (apR rs b).length c2]) rfl (by kernel_rfl) (by kernel_rfl) (by kernel_rfl) (fun _ _ _ h => h) (Or.inl ⟨by rfl, fun w hw => by obtain z0 := hw; go_simp⟩) hHd2 ?_
            simp only [Act.put, List.getElem_toArray, List.getElem_cons_zero, List.getElem_cons_succ, List.setIfInBounds_toArray, List.set_cons_zero, List.set_cons_succ]
            refine wpAnyH_take (i := 6) (v := .int .i64 (apC rs b)) rfl (by kernel_rfl) (by kernel_rfl) (by kernel_rfl) (fun _ _ _ h => h) (Or.inl ⟨by rfl, fun w hw => by obtain z0 := hw; go_simp⟩) hHd2 ?_
            simp only [Act.put, List.getElem_toArray, List.getElem_cons_zero, List.getElem_cons_succ, List.setIfInBounds_toArray, List.set_cons_zero, List.set_cons_succ]
            refine wpAnyH_ready (rs := [7]) (by kernel_rfl) (by simp) ?_
            refine AllReadyH.cons rfl (fun K hK => ?_) AllReadyH.nil
            go_simp
            have F7 := (F3.below (below_nw _ (.cells #[.slice none 0 0] 25)))
            have rX := (row_new w5 #[.slice none 0 0] 25)
            have xS := F3.x.row.lt
            have xR := F3.rb.lt
            have x0 := F3.lt
            have xl := F3.x.s.lR
            have xo : (Value.slice ya rs.length yc).ownBlock ≠ some w5.heap.size := fun e => by have := (F3.x.s.own.lt _ e).2; omega
            have n3 : (Value.slice a2 (apR rs b).length c2).ownBlock ≠ some w5.heap.size := fun e => by have := (hown3.lt _ e).2; omega
            have hown3 := hown3.alloc (.cells #[.slice none 0 0] 25)
            obtain ⟨X, e_X⟩ : ∃ z, z = w5.heap.size := ⟨_, rfl⟩
            obtain ⟨wx, e_wx⟩ : ∃ z, z = (w5.alloc (.cells #[.slice none 0 0] 25)) := ⟨_, rfl⟩
            have hX1 : X ≠ SB := by omega
            have hX2 : X ≠ RB := by omega
            have hX3 : w.heap.size ≤ X := by omega
            rw [← e_X] at xo
            have hXR : R < X := by omega
            try rw [← e_wx] at F7
            try rw [← e_X] at F7
            try rw [← e_wx] at rX
            try rw [← e_X] at rX
            try rw [← e_wx] at hown3
            try rw [← e_X] at hown3
            try rw [← e_wx] at n3
            try rw [← e_X] at n3
            rw [← e_wx, ← e_X]
            clear e_wx e_X
            refine hK.out _ _ (F7.x.row.cell 0 _ rfl) (fun hHd3 => ?_)
            clear hK K
            try simp only [Act.put, List.getElem_toArray, List.getElem_cons_zero, List.getElem_cons_succ, List.setIfInBounds_toArray, List.set_cons_zero, List.set_cons_succ]
            refine wpAnyH_ready (rs := [8]) (by kernel_rfl) (by simp) ?_
            refine AllReadyH.cons rfl (fun K hK => ?_) AllReadyH.nil
            have k0 := rX.cell 0 _ rfl
            have k1 := rX.froz 0 (by simp)
            have k2 := rX.lt
            go_simp
            have G8 := F7.far X 0 hX3 hX1 hX2 xo (.slice a2 (apR rs b).length c2)
            have rX8 := rX.set 0 (by simp) (.slice a2 (apR rs b).length c2)
            have hown8 := ownsRow_setCell_other (a := ⟨X, 0, none⟩) hown3 n3 (.slice a2 (apR rs b).length c2)
            refine hK.out _ _ (G8.x.row.cell 0 _ rfl) (fun hHd4 => ?_)
            clear hK K
            try simp only [Act.put, List.getElem_toArray, List.getElem_cons_zero, List.getElem_cons_succ, List.setIfInBounds_toArray, List.set_cons_zero, List.set_cons_succ]
            refine wpAnyH_ready (rs := [9]) (by kernel_rfl) (by simp) ?_
            refine AllReadyH.cons rfl (fun K hK => ?_) AllReadyH.nil
            go_simp
            refine hK.out _ _ hHd4 (fun _ => ?_)
            clear hK K
            try simp only [Act.put, List.getElem_toArray, List.getElem_cons_zero, List.getElem_cons_succ, List.setIfInBounds_toArray, List.set_cons_zero, List.set_cons_succ]
            refine wpAnyH_done (by kernel_rfl) ?_ _
            go_wp2_with fail
            go_meet
            exact ⟨X, apC rs b, q2, apR rs b, _, rfl, rfl, q20, q21, apR_ok rs b, G8, rX8, hX1, hown8, n1, n2⟩
          · go_simp
            have F7 := (F2.below (below_nw _ (.cells #[.slice none 0 0] 25)))
            have rX := (row_new w4 #[.slice none 0 0] 25)
            have xS := F2.x.row.lt
            have xR := F2.rb.lt
            have x0 := F2.lt
            have xl := F2.x.s.lR
            have xo : (Value.slice ya rs.length yc).ownBlock ≠ some w4.heap.size := fun e => by have := (F2.x.s.own.lt _ e).2; omega
            have hob7 := hob.alloc (.cells #[.slice none 0 0] 25)
            obtain ⟨X, e_X⟩ : ∃ z, z = w4.heap.size := ⟨_, rfl⟩
            obtain ⟨wx, e_wx⟩ : ∃ z, z = (w4.alloc (.cells #[.slice none 0 0] 25)) := ⟨_, rfl⟩
            have hX1 : X ≠ SB := by omega
            have hX2 : X ≠ RB := by omega
            have hX3 : w.heap.size ≤ X := by omega
            rw [← e_X] at xo
            have hXR : R < X := by omega
            try rw [← e_wx] at F7
            try rw [← e_X] at F7
            try rw [← e_wx] at rX
            try rw [← e_X] at rX
            try rw [← e_wx] at hob7
            try rw [← e_X] at hob7
            rw [← e_wx, ← e_X]
            clear e_wx e_X
            refine hK.out _ _ (F7.x.row.cell 0 _ rfl) (fun hHd6 => ?_)
            clear hK K
            try simp only [Act.put, List.getElem_toArray, List.getElem_cons_zero, List.getElem_cons_succ, List.setIfInBounds_toArray, List.set_cons_zero, List.set_cons_succ]
            refine wpAnyH_ready (rs := [3]) (by kernel_rfl) (by simp) ?_
            refine AllReadyH.cons rfl (fun K hK => ?_) AllReadyH.nil
            have hob' := hob7
            refine step_call (by rfl) 11 #[.agg #[.slice ya rs.length yc], .slice ba b.length bc] (by go_simp) (apply_so ya rs yc ba b bc _ (prs_own F7.x.s.own) (by omega) (fun x hx => by have := hps x hx; omega) (chs_own hob') (by omega) (fun x hx => by have := hble x hx; omega)) ?_
            have lS := F7.x.row.lt
            have lB := F7.rb.lt
            rintro e w5 ⟨a2, c2, rfl, hown2, hb5⟩
            refine ⟨_, rfl, ?_⟩
            have F3 := F7.below hb5
            have n1 : (Value.slice a2 (apR rs b).length c2).ownBlock ≠ some RB := fun e => by have := (hown2.lt _ e).1; omega
            have n2 : (Value.slice a2 (apR rs b).length c2).ownBlock ≠ some SB := fun e => by have := (hown2.lt _ e).1; omega
            have hown3 := own_baseA hown2 F7.lt
            have n3 : (Value.slice a2 (apR rs b).length c2).ownBlock ≠ some X := fun e => by have := (hown2.lt _ e).1; have := rX.lt; omega
            have rX := rX.below hb5
            refine hK.out _ _ (F3.x.row.cell 0 _ rfl) (fun hHd7 => ?_)
            clear hK K
            try simp only [Act.put, List.getElem_toArray, List.getElem_cons_zero, List.getElem_cons_succ, List.setIfInBounds_toArray, List.set_cons_zero, List.set_cons_succ]
            refine wpAnyH_take (i := 4) (v := .tuple #[.agg #[.slice a2 (apR rs b).length c2], .int .i64 (apC rs b)]) rfl (by kernel_rfl) (by kernel_rfl) (by kernel_rfl) (fun _ _ _ h => h) (Or.inl ⟨by rfl, fun w hw => by obtain z0 := hw; go_simp⟩) hHd7 ?_
            simp only [Act.put, List.getElem_toArray, List.getElem_cons_zero, List.getElem_cons_succ, List.setIfInBounds_toArray, List.set_cons_zero, List.set_cons_succ]
            refine wpAnyH_take (i := 5) (v := .agg #[.slice a2 (apR rs b).length c2]) rfl (by kernel_rfl) (by kernel_rfl) (by kernel_rfl) (fun _ _ _ h => h) (Or.inl ⟨by rfl, fun w hw => by obtain z0 := hw; go_simp⟩) hHd7 ?_
            simp only [Act.put, List.getElem_toArray, List.getElem_cons_zero, List.getElem_cons_succ, List.setIfInBounds_toArray, List.set_cons_zero, List.set_cons_succ]
            refine wpAnyH_take (i := 6) (v := .int .i64 (apC rs b)) rfl (by kernel_rfl) (by kernel_rfl) (by kernel_rfl) (fun _ _ _ h => h) (Or.inl ⟨by rfl, fun w hw => by obtain z0 := hw; go_simp⟩) hHd7 ?_
            simp only [Act.put, List.getElem_toArray, List.getElem_cons_zero, List.getElem_cons_succ, List.setIfInBounds_toArray, List.set_cons_zero, List.set_cons_succ]
            refine wpAnyH_ready (rs := [8]) (by kernel_rfl) (by simp) ?_
            refine AllReadyH.cons rfl (fun K hK => ?_) AllReadyH.nil
            have k0 := rX.cell 0 _ rfl
            have k1 := rX.froz 0 (by simp)
            have k2 := rX.lt
            go_simp
            have G8 := F3.far X 0 hX3 hX1 hX2 xo (.slice a2 (apR rs b).length c2)
            have rX8 := rX.set 0 (by simp) (.slice a2 (apR rs b).length c2)
            have hown8 := ownsRow_setCell_other (a := ⟨X, 0, none⟩) hown3 n3 (.slice a2 (apR rs b).length c2)
            refine hK.out _ _ (G8.x.row.cell 0 _ rfl) (fun hHd8 => ?_)
            clear hK K
            try simp only [Act.put, List.getElem_toArray, List.getElem_cons_zero, List.getElem_cons_succ, List.setIfInBounds_toArray, List.set_cons_zero, List.set_cons_succ]
            refine wpAnyH_ready (rs := [9]) (by kernel_rfl) (by simp) ?_
            refine AllReadyH.cons rfl (fun K hK => ?_) AllReadyH.nil
            go_simp
            refine hK.out _ _ hHd8 (fun _ => ?_)
            clear hK K
            try simp only [Act.put, List.getElem_toArray, List.getElem_cons_zero, List.getElem_cons_succ, List.setIfInBounds_toArray, List.set_cons_zero, List.set_cons_succ]
            refine wpAnyH_done (by kernel_rfl) ?_ _
            go_wp2_with fail
            go_meet
            exact ⟨X, apC rs b, q2, apR rs b, _, rfl, rfl, q20, q21, apR_ok rs b, G8, rX8, hX1, hown8, n1, n2⟩
        · go_simp
          have F7 := (D.below (below_nw _ (.cells #[.slice none 0 0] 25))).drew
          have rX := (row_new wr #[.slice none 0 0] 25).drew
          have xS := D.x.row.lt
          have xR := D.rb.lt
          have x0 := D.lt
          have xl := D.x.s.lR
          have xo : (Value.slice ya rs.length yc).ownBlock ≠ some wr.heap.size := fun e => by have := (D.x.s.own.lt _ e).2; omega
          obtain ⟨X, e_X⟩ : ∃ z, z = wr.heap.size := ⟨_, rfl⟩
          obtain ⟨wx, e_wx⟩ : ∃ z, z = (wr.alloc (.cells #[.slice none 0 0] 25)).drew := ⟨_, rfl⟩
          have hX1 : X ≠ SB := by omega
          have hX2 : X ≠ RB := by omega
          have hX3 : w.heap.size ≤ X := by omega
          rw [← e_X] at xo
          have hXR : R < X := by omega
          try rw [← e_wx] at F7
          try rw [← e_X] at F7
          try rw [← e_wx] at rX
          try rw [← e_X] at rX
          rw [← e_wx, ← e_X]
          clear e_wx e_X
          refine hK.out _ _ (F7.x.row.cell 0 _ rfl) (fun hHd10 => ?_)
          clear hK K
          try simp only [Act.put, List.getElem_toArray, List.getElem_cons_zero, List.getElem_cons_succ, List.setIfInBounds_toArray, List.set_cons_zero, List.set_cons_succ]
          refine wpAnyH_ready (rs := [2]) (by kernel_rfl) (by simp) ?_
          refine AllReadyH.cons rfl (fun K hK => ?_) AllReadyH.nil
          refine step_call (by rfl) 52 #[.pointer (some ⟨R, 0, none⟩)] (by go_simp) (batch_r R a n c q _ F7.rd (by omega)) ?_
          rintro e w4 ⟨⟨bv, b, rfl, hob, ⟨hb1, hb2⟩, hble⟩, ⟨q2, q20, q21, hr4⟩, hg4⟩
          refine ⟨_, rfl, ?_⟩
          have F2 := F7.pick hr4 hg4
          obtain ⟨ba, bc, rfl⟩ := owns_slice hob
          have rX := rX.grown hg4 (fun e => by injection e with e; omega)
          clear hr4 hg4
          refine hK.out _ _ (F2.x.row.cell 0 _ rfl) (fun hHd11 => ?_)
          clear hK K
          try simp only [Act.put, List.getElem_toArray, List.getElem_cons_zero, List.getElem_cons_succ, List.setIfInBounds_toArray, List.set_cons_zero, List.set_cons_succ]
          refine wpAnyH_ready (rs := [3]) (by kernel_rfl) (by simp) ?_
          refine AllReadyH.cons rfl (fun K hK => ?_) AllReadyH.nil
          have hob' := hob
          refine step_call (by rfl) 11 #[.agg #[.slice ya rs.length yc], .slice ba b.length bc] (by go_simp) (apply_so ya rs yc ba b bc _ (prs_own F2.x.s.own) (by omega) (fun x hx => by have := hps x hx; omega) (chs_own hob') (by omega) (fun x hx => by have := hble x hx; omega)) ?_
          have lS := F2.x.row.lt
          have lB := F2.rb.lt
          rintro e w5 ⟨a2, c2, rfl, hown2, hb5⟩
          refine ⟨_, rfl, ?_⟩
          have F3 := F2.below hb5
          have n1 : (Value.slice a2 (apR rs b).length c2).ownBlock ≠ some RB := fun e => by have := (hown2.lt _ e).1; omega
          have n2 : (Value.slice a2 (apR rs b).length c2).ownBlock ≠ some SB := fun e => by have := (hown2.lt _ e).1; omega
          have hown3 := own_baseA hown2 F2.lt
          have n3 : (Value.slice a2 (apR rs b).length c2).ownBlock ≠ some X := fun e => by have := (hown2.lt _ e).1; have := rX.lt; omega
          have rX := rX.below hb5
          refine hK.out _ _ (F3.x.row.cell 0 _ rfl) (fun hHd12 => ?_)
          clear hK K
          try simp only [Act.put, List.getElem_toArray, List.getElem_cons_zero, List.getElem_cons_succ, List.setIfInBounds_toArray, List.set_cons_zero, List.set_cons_succ]
          refine wpAnyH_take (i := 4) (v := .tuple #[.agg #[.slice a2 (apR rs b).length c2], .int .i64 (apC rs b)]) rfl (by kernel_rfl) (by kernel_rfl) (by kernel_rfl) (fun _ _ _ h => h) (Or.inl ⟨by rfl, fun w hw => by obtain z0 := hw; go_simp⟩) hHd12 ?_
          simp only [Act.put, List.getElem_toArray, List.getElem_cons_zero, List.getElem_cons_succ, List.setIfInBounds_toArray, List.set_cons_zero, List.set_cons_succ]
          refine wpAnyH_take (i := 5) (v := .agg #[.slice a2 (apR rs b).length c2]) rfl (by kernel_rfl) (by kernel_rfl) (by kernel_rfl) (fun _ _ _ h => h) (Or.inl ⟨by rfl, fun w hw => by obtain z0 := hw; go_simp⟩) hHd12 ?_
          simp only [Act.put, List.getElem_toArray, List.getElem_cons_zero, List.getElem_cons_succ, List.setIfInBounds_toArray, List.set_cons_zero, List.set_cons_succ]
          refine wpAnyH_take (i := 6) (v := .int .i64 (apC rs b)) rfl (by kernel_rfl) (by kernel_rfl) (by kernel_rfl) (fun _ _ _ h => h) (Or.inl ⟨by rfl, fun w hw => by obtain z0 := hw; go_simp⟩) hHd12 ?_
          simp only [Act.put, List.getElem_toArray, List.getElem_cons_zero, List.getElem_cons_succ, List.setIfInBounds_toArray, List.set_cons_zero, List.set_cons_succ]
          refine wpAnyH_ready (rs := [8]) (by kernel_rfl) (by simp) ?_
          refine AllReadyH.cons rfl (fun K hK => ?_) AllReadyH.nil
          have k0 := rX.cell 0 _ rfl
          have k1 := rX.froz 0 (by simp)
          have k2 := rX.lt
          go_simp
          have G8 := F3.far X 0 hX3 hX1 hX2 xo (.slice a2 (apR rs b).length c2)
          have rX8 := rX.set 0 (by simp) (.slice a2 (apR rs b).length c2)
          have hown8 := ownsRow_setCell_other (a := ⟨X, 0, none⟩) hown3 n3 (.slice a2 (apR rs b).length c2)
          refine hK.out _ _ (G8.x.row.cell 0 _ rfl) (fun hHd13 => ?_)
          clear hK K
          try simp only [Act.put, List.getElem_toArray, List.getElem_cons_zero, List.getElem_cons_succ, List.setIfInBounds_toArray, List.set_cons_zero, List.set_cons_succ]
          refine wpAnyH_ready (rs := [9]) (by kernel_rfl) (by simp) ?_
          refine AllReadyH.cons rfl (fun K hK => ?_) AllReadyH.nil
          go_simp
          refine hK.out _ _ hHd13 (fun _ => ?_)
          clear hK K
          try simp only [Act.put, List.getElem_toArray, List.getElem_cons_zero, List.getElem_cons_succ, List.setIfInBounds_toArray, List.set_cons_zero, List.set_cons_succ]
          refine wpAnyH_done (by kernel_rfl) ?_ _
          go_wp2_with fail
          go_meet
          exact ⟨X, apC rs b, q2, apR rs b, _, rfl, rfl, q20, q21, apR_ok rs b, G8, rX8, hX1, hown8, n1, n2⟩
      case rest =>
      obtain ⟨X, cd, q2, rs2, y2, rfl, rfl, q20, q21, hok2, G, rX, hXS, ho2, n1, n2⟩ := hcut
      clear D
      obtain ⟨ya2, yc2, rfl, _⟩ := owns_prs ho2
      by_cases hcd : cd = 0
      · subst hcd
        have k0 := rX.cell 0 _ rfl
        have k2 := rX.lt
        have s0 := G.x.row.cell 0 _ rfl
        have s1 := G.x.row.froz 0 (by simp)
        have s2 := G.x.row.lt
        have G2 := G.put ho2 n1 n2
        go_wp2
        exact ⟨⟨m - 1, q2, rs2, _, _, rfl, rfl, by omega, by omega, by omega, by omega, hok2 rfl, G2⟩, by simp [intOf]; omega⟩
      · have hcb : (cd == 0) = false := by simp [hcd]
        go_wp2
        exact ⟨⟨m - 1, q2, rs, _, _, rfl, rfl, by omega, by omega, by omega, by omega, hok, G⟩, by simp [intOf]; omega⟩
    · obtain rfl : m = 0 := by omega
      go_wp2_with fail
      refine (pick_r R a n c (q) 12 _ D.rd (by omega)).mono ?_
      rintro e w1 ⟨⟨v, rfl, v0, v1⟩, hr1, hg1⟩
      have D1 := D.pick hr1 hg1
      clear hr1 hg1
      go_upto_if 34 with fail
      go_cut [] from 35 to 82 (fun wx => ∃ (q2 : Int) (rs2 : List Pr) (y2 : Value), p ≤ q2 ∧ q2 ≤ p + 8000 ∧ rs2.length ≤ 100 ∧ psLe rs2 64000 64000 ∧ AnS w wx R a n c q2 RB SB y2 rs2)
      case first =>
        by_cases hv : v = 0
        · subst hv
          go_wp2_with fail
          refine (pick_r R a n c (q + 1) 3 _ D1.rd (by omega)).mono ?_
          rintro e w3 ⟨⟨z, rfl, z0, z1⟩, hr3, hg3⟩
          have D3 := D1.pick hr3 hg3
          clear hr3 hg3
          have hzw : IntKind.i64.wrap (100 - z) = 100 - z := wrap_i64_id _ (by omega) (by omega)
          go_wp2
          go_loopw [8] (fun iv wr => ∃ (i : Nat) (q : Int) (rs : List Pr) (Y : Value) (W : World), W = wr ∧ iv = .int .i64 (i : Int) ∧ i ≤ rs.length ∧ rs.length ≤ 100 ∧ p ≤ q ∧ q ≤ p + 6600 + 12 * (i : Int) ∧ psLe rs 64000 64000 ∧ AnS w W R a n c q RB SB Y rs) (fun iv _ => (300 - intOf iv).toNat)
          case atStart => exact ⟨0, q + 1 + 1, rs, _, _, rfl, rfl, Nat.zero_le _, hrl, by omega, by omega, hps, D3⟩
          case round =>
            obtain ⟨i, q, rs, y, wr, rfl, rfl, hi, hrl, q0, q1, hps, D⟩ := hrel
            obtain ⟨ya, yc, rfl, _⟩ := owns_prs D.x.s.own
            have c0 := D.x.row.cell 0 _ rfl
            have c1 := D.x.row.froz 0 (by simp)
            have c2 := D.x.row.lt
            by_cases hlt : (rs.length : Int) < 100 - z
            · have hiw : IntKind.i64.wrap ((i : Int) + 1) = (i : Int) + 1 := wrap_i64_id _ (by omega) (by omega)
              obtain ⟨tu, tv, t1, t2, t3, t4, t5, t6, t7, t8⟩ := ten_parts i (by omega)
              have tw1 : IntKind.i64.wrap (48 + tu) = 48 + tu := wrap_i64_id _ (by omega) (by omega)
              have tw2 : IntKind.i64.wrap (48 + tv) = 48 + tv := wrap_i64_id _ (by omega) (by omega)
              have tw3 : IntKind.i64.wrap tu = tu := wrap_i64_id _ (by omega) (by omega)
              have tw4 : IntKind.u8.wrap (48 + tu) = 48 + tu := by simp [IntKind.wrap, IntKind.bits, IntKind.signed]; omega
              have tw5 : IntKind.u8.wrap (48 + tv) = 48 + tv := by simp [IntKind.wrap, IntKind.bits, IntKind.signed]; omega
              go_upto_region 15 with fail
              clear c0 c1 c2
              go_cut [] from 38 to 82 (fun wx => ∃ (KY t : ByteArray) (q2 : Int) (yg ycap : Nat), KY.size ≤ 64000 ∧ t.size ≤ 64000 ∧ q ≤ q2 ∧ q2 ≤ q + 10 ∧ AnS w wx R a n c q2 RB SB (.slice (some ⟨yg, 0, none⟩) (rs.length + [(KY, t)].length) ycap) (rs ++ [(KY, t)]))
              case first =>
                refine wp_region_held_drew (S := fun w' => True) (by kernel_rfl) (trivial) (fun hHeld => ?_)
                refine wpAnyH_take (i := 0) (v := .pointer (some ⟨SB, 0, none⟩)) rfl (by kernel_rfl) (by kernel_rfl) (by kernel_rfl) (fun _ _ _ h => h) (Or.inl ⟨by rfl, fun w hw => by obtain z0 := hw; go_simp⟩) hHeld ?_
                simp only [Act.put, List.getElem_toArray, List.getElem_cons_zero, List.getElem_cons_succ, List.setIfInBounds_toArray, List.set_cons_zero, List.set_cons_succ]
                refine wpAnyH_take (i := 2) (v := .int .i64 (i : Int)) rfl (by kernel_rfl) (by kernel_rfl) (by kernel_rfl) (fun _ _ _ h => h) (Or.inl ⟨by rfl, fun w hw => by obtain z0 := hw; go_simp⟩) hHeld ?_
                simp only [Act.put, List.getElem_toArray, List.getElem_cons_zero, List.getElem_cons_succ, List.setIfInBounds_toArray, List.set_cons_zero, List.set_cons_succ]
                refine wpAnyH_take (i := 3) (v := .int .i64 tu) rfl (by kernel_rfl) (by kernel_rfl) (by kernel_rfl) (fun _ _ _ h => h) (Or.inl ⟨by rfl, fun w hw => by obtain z0 := hw; go_simp⟩) hHeld ?_
                simp only [Act.put, List.getElem_toArray, List.getElem_cons_zero, List.getElem_cons_succ, List.setIfInBounds_toArray, List.set_cons_zero, List.set_cons_succ]
                refine wpAnyH_take (i := 4) (v := .int .i64 (48 + tu)) rfl (by kernel_rfl) (by kernel_rfl) (by kernel_rfl) (fun _ _ _ h => h) (Or.inl ⟨by rfl, fun w hw => by obtain z0 := hw; go_simp⟩) hHeld ?_
                simp only [Act.put, List.getElem_toArray, List.getElem_cons_zero, List.getElem_cons_succ, List.setIfInBounds_toArray, List.set_cons_zero, List.set_cons_succ]
                refine wpAnyH_take (i := 5) (v := .int .u8 (48 + tu)) rfl (by kernel_rfl) (by kernel_rfl) (by kernel_rfl) (fun _ _ _ h => h) (Or.inl ⟨by rfl, fun w hw => by obtain z0 := hw; go_simp⟩) hHeld ?_
                simp only [Act.put, List.getElem_toArray, List.getElem_cons_zero, List.getElem_cons_succ, List.setIfInBounds_toArray, List.set_cons_zero, List.set_cons_succ]
                refine wpAnyH_take (i := 6) (v := .int .i64 (i : Int)) rfl (by kernel_rfl) (by kernel_rfl) (by kernel_rfl) (fun _ _ _ h => h) (Or.inl ⟨by rfl, fun w hw => by obtain z0 := hw; go_simp⟩) hHeld ?_
                simp only [Act.put, List.getElem_toArray, List.getElem_cons_zero, List.getElem_cons_succ, List.setIfInBounds_toArray, List.set_cons_zero, List.set_cons_succ]
                refine wpAnyH_take (i := 7) (v := .int .i64 tv) rfl (by kernel_rfl) (by kernel_rfl) (by kernel_rfl) (fun _ _ _ h => h) (Or.inl ⟨by rfl, fun w hw => by obtain z0 := hw; go_simp⟩) hHeld ?_
                simp only [Act.put, List.getElem_toArray, List.getElem_cons_zero, List.getElem_cons_succ, List.setIfInBounds_toArray, List.set_cons_zero, List.set_cons_succ]
                refine wpAnyH_take (i := 8) (v := .int .i64 (48 + tv)) rfl (by kernel_rfl) (by kernel_rfl) (by kernel_rfl) (fun _ _ _ h => h) (Or.inl ⟨by rfl, fun w hw => by obtain z0 := hw; go_simp⟩) hHeld ?_
                simp only [Act.put, List.getElem_toArray, List.getElem_cons_zero, List.getElem_cons_succ, List.setIfInBounds_toArray, List.set_cons_zero, List.set_cons_succ]
                refine wpAnyH_take (i := 9) (v := .int .u8 (48 + tv)) rfl (by kernel_rfl) (by kernel_rfl) (by kernel_rfl) (fun _ _ _ h => h) (Or.inl ⟨by rfl, fun w hw => by obtain z0 := hw; go_simp⟩) hHeld ?_
                simp only [Act.put, List.getElem_toArray, List.getElem_cons_zero, List.getElem_cons_succ, List.setIfInBounds_toArray, List.set_cons_zero, List.set_cons_succ]
                refine wpAnyH_take (i := 13) (v := .pointer (some ⟨R, 0, none⟩)) rfl (by kernel_rfl) (by kernel_rfl) (by kernel_rfl) (fun _ _ _ h => h) (Or.inl ⟨by rfl, fun w hw => by obtain z0 := hw; go_simp⟩) hHeld ?_
                simp only [Act.put, List.getElem_toArray, List.getElem_cons_zero, List.getElem_cons_succ, List.setIfInBounds_toArray, List.set_cons_zero, List.set_cons_succ]
                refine wpAnyH_ready (rs := [1, 10, 14]) (by kernel_rfl) (by simp) ?_
                refine AllReadyH.cons rfl (fun K hK => ?_) (AllReadyH.cons rfl (fun K hK => ?_) (AllReadyH.cons rfl (fun K hK => ?_) AllReadyH.nil))
                · have l0 := D.drew.x.row.cell 0 _ rfl
                  go_simp
                  refine hK.out _ _ hHeld (fun _ => ?_)
                  clear hK K
                  try simp only [Act.put, List.getElem_toArray, List.getElem_cons_zero, List.getElem_cons_succ, List.setIfInBounds_toArray, List.set_cons_zero, List.set_cons_succ]
                  refine wpAnyH_ready (rs := [10, 14]) (by kernel_rfl) (by simp) ?_
                  refine AllReadyH.cons rfl (fun K hK => ?_) (AllReadyH.cons rfl (fun K hK => ?_) AllReadyH.nil)
                  · go_simp
                    have F10 := (D.below (below_nw _ (.cells #[.int .u8 (48 + tu), .int .u8 (48 + tv)] 5))).drew
                    have rT := (row_new wr #[.int .u8 (48 + tu), .int .u8 (48 + tv)] 5).drew
                    have yR := D.x.s.lR
                    have y0 := D.lt
                    obtain ⟨TB, e_T⟩ : ∃ z, z = wr.heap.size := ⟨_, rfl⟩
                    obtain ⟨wb, e_wb⟩ : ∃ z, z = (wr.alloc (.cells #[.int .u8 (48 + tu), .int .u8 (48 + tv)] 5)).drew := ⟨_, rfl⟩
                    have hTR : R < TB := by omega
                    rw [← e_wb] at F10
                    rw [← e_wb, ← e_T] at rT
                    rw [← e_wb, ← e_T]
                    clear e_wb e_T
                    refine hK.out _ _ hHeld (fun _ => ?_)
                    clear hK K
                    try simp only [Act.put, List.getElem_toArray, List.getElem_cons_zero, List.getElem_cons_succ, List.setIfInBounds_toArray, List.set_cons_zero, List.set_cons_succ]
                    refine wpAnyH_ready (rs := [11, 14]) (by kernel_rfl) (by simp) ?_
                    refine AllReadyH.cons rfl (fun K hK => ?_) (AllReadyH.cons rfl (fun K hK => ?_) AllReadyH.nil)
                    · have hcv := bytes_2 _ _ _ _ (rT.cell 0 _ rfl) (rT.cell 1 _ rfl)
                      obtain ⟨K0, e_K0⟩ : ∃ z, z = strOfNums [48 + tu, 48 + tv] := ⟨_, rfl⟩
                      have hK0 : K0.size = 2 := by rw [e_K0, strOfNums_size]; rfl
                      rw [← e_K0] at hcv
                      clear e_K0
                      obtain ⟨KY, e_KY⟩ : ∃ z, (⟨#[122]⟩ : ByteArray) ++ K0 = z := ⟨_, rfl⟩
                      have hKY : KY.size = 3 := by rw [← e_KY, ByteArray.size_append]; show 1 + K0.size = 3; omega
                      have zk1 : ¬ (9223372036854775807 < 1 + K0.size) := by omega
                      go_simp
                      refine hK.out _ _ hHeld (fun _ => ?_)
                      clear hK K
                      try simp only [Act.put, List.getElem_toArray, List.getElem_cons_zero, List.getElem_cons_succ, List.setIfInBounds_toArray, List.set_cons_zero, List.set_cons_succ]
                      refine wpAnyH_take (i := 12) (v := .string KY) rfl (by kernel_rfl) (by kernel_rfl) (by kernel_rfl) (fun _ _ _ h => h) (Or.inl ⟨by rfl, fun w hw => by obtain z0 := hw; go_simp⟩) hHeld ?_
                      simp only [Act.put, List.getElem_toArray, List.getElem_cons_zero, List.getElem_cons_succ, List.setIfInBounds_toArray, List.set_cons_zero, List.set_cons_succ]
                      refine wpAnyH_ready (rs := [14]) (by kernel_rfl) (by simp) ?_
                      refine AllReadyH.cons rfl (fun K hK => ?_) AllReadyH.nil
                      refine step_call (by rfl) 115 #[.pointer (some ⟨R, 0, none⟩)] (by go_simp) (text_r R a n c q _ F10.rd (by omega)) ?_
                      rintro e w5 ⟨⟨t, rfl, ht⟩, ⟨q2, q20, q21, hr5⟩, hg5⟩
                      refine ⟨_, rfl, ?_⟩
                      have F14 := F10.pick hr5 hg5
                      have rT := rT.grown hg5 (fun e => by injection e with e; omega)
                      clear hr5 hg5
                      refine hK.out _ _ hHeld (fun _ => ?_)
                      clear hK K
                      try simp only [Act.put, List.getElem_toArray, List.getElem_cons_zero, List.getElem_cons_succ, List.setIfInBounds_toArray, List.set_cons_zero, List.set_cons_succ]
                      refine wpAnyH_take (i := 15) (v := .agg #[.string KY, .string t]) rfl (by kernel_rfl) (by kernel_rfl) (by kernel_rfl) (fun _ _ _ h => h) (Or.inl ⟨by rfl, fun w hw => by obtain z0 := hw; go_simp⟩) hHeld ?_
                      simp only [Act.put, List.getElem_toArray, List.getElem_cons_zero, List.getElem_cons_succ, List.setIfInBounds_toArray, List.set_cons_zero, List.set_cons_succ]
                      refine wpAnyH_ready (rs := [16]) (by kernel_rfl) (by simp) ?_
                      refine AllReadyH.cons rfl (fun K hK => ?_) AllReadyH.nil
                      go_simp
                      have F16 := F14.below (below_nw _ (.cells #[.string KY, .string t] 101))
                      have hW0 := F14.lt
                      refine hK.out _ _ hHeld (fun _ => ?_)
                      clear hK K
                      try simp only [Act.put, List.getElem_toArray, List.getElem_cons_zero, List.getElem_cons_succ, List.setIfInBounds_toArray, List.set_cons_zero, List.set_cons_succ]
                      refine wpAnyH_ready (rs := [17]) (by kernel_rfl) (by simp) ?_
                      refine AllReadyH.cons rfl (fun K hK => ?_) AllReadyH.nil
                      refine step_append_lies _ (by rfl) _ _ _ (by rfl) w.heap.size 101 i0 (.agg #[.string ByteArray.empty, .string ByteArray.empty]) 2 32 Try.underlying23 HI.out.1 HI.out.2.1 HI.out.2.2.1 HI.out.2.2.2 rfl (by omega) (.slice ya rs.length yc) rs.length _ (by rfl) F16.x.s.own ⟨w5.heap.size, 0, none⟩ 1 1 [.string KY, .string t] (by rfl) rfl (World.news_of_block (heap_alloc_new w5 _)) (onePrA _ _) (by omega) (by unfold maxLen; omega) (by omega) (by simp; omega) (w5.heap.size + 1) (by simp) ?_
                      intro yg ycap w9 hown9 hgrow9 hat9 hlt9
                      have hown9' : w9.ownsRow w.heap.size 101 2 (.slice (some ⟨yg, 0, none⟩) (rs ++ [(KY, t)]).length ycap) (rs ++ [(KY, t)]).length (prcells (rs ++ [(KY, t)])) := by rw [prcells_snocA, List.length_append]; exact hown9
                      obtain ⟨r9, G9⟩ := F16.push hown9' hgrow9 hat9 (by simp)
                      clear hown9 hgrow9 hat9
                      refine hK.out _ _ hHeld (fun _ => ?_)
                      clear hK K
                      try simp only [Act.put, List.getElem_toArray, List.getElem_cons_zero, List.getElem_cons_succ, List.setIfInBounds_toArray, List.set_cons_zero, List.set_cons_succ]
                      refine wpAnyH_take (i := 18) (v := .pointer (some ⟨SB, 0, none⟩)) rfl (by kernel_rfl) (by kernel_rfl) (by kernel_rfl) (fun _ _ _ h => h) (Or.inl ⟨by rfl, fun w hw => by obtain z0 := hw; go_simp⟩) hHeld ?_
                      simp only [Act.put, List.getElem_toArray, List.getElem_cons_zero, List.getElem_cons_succ, List.setIfInBounds_toArray, List.set_cons_zero, List.set_cons_succ]
                      refine wpAnyH_ready (rs := [19]) (by kernel_rfl) (by simp) ?_
                      refine AllReadyH.cons rfl (fun K hK => ?_) AllReadyH.nil
                      have l0 := r9.cell 0 _ rfl
                      have l1 := r9.froz 0 (by simp)
                      have l2 := r9.lt
                      go_simp
                      refine hK.out _ _ hHeld (fun _ => ?_)
                      clear hK K
                      try simp only [Act.put, List.getElem_toArray, List.getElem_cons_zero, List.getElem_cons_succ, List.setIfInBounds_toArray, List.set_cons_zero, List.set_cons_succ]
                      refine wpAnyH_done (by kernel_rfl) ?_ _
                      rw [List.length_append] at G9
                      go_wp2_with fail
                      go_meet
                      exact ⟨KY, t, q2, yg, ycap, by omega, ht, q20, q21, G9⟩
                    · refine step_call (by rfl) 115 #[.pointer (some ⟨R, 0, none⟩)] (by go_simp) (text_r R a n c q _ F10.rd (by omega)) ?_
                      rintro e w5 ⟨⟨t, rfl, ht⟩, ⟨q2, q20, q21, hr5⟩, hg5⟩
                      refine ⟨_, rfl, ?_⟩
                      have F14 := F10.pick hr5 hg5
                      have rT := rT.grown hg5 (fun e => by injection e with e; omega)
                      clear hr5 hg5
                      refine hK.out _ _ hHeld (fun _ => ?_)
                      clear hK K
                      try simp only [Act.put, List.getElem_toArray, List.getElem_cons_zero, List.getElem_cons_succ, List.setIfInBounds_toArray, List.set_cons_zero, List.set_cons_succ]
                      refine wpAnyH_ready (rs := [11]) (by kernel_rfl) (by simp) ?_
                      refine AllReadyH.cons rfl (fun K hK => ?_) AllReadyH.nil
                      have hcv := bytes_2 _ _ _ _ (rT.cell 0 _ rfl) (rT.cell 1 _ rfl)
                      obtain ⟨K0, e_K0⟩ : ∃ z, z = strOfNums [48 + tu, 48 + tv] := ⟨_, rfl⟩
                      have hK0 : K0.size = 2 := by rw [e_K0, strOfNums_size]; rfl
                      rw [← e_K0] at hcv
                      clear e_K0
                      obtain ⟨KY, e_KY⟩ : ∃ z, (⟨#[122]⟩ : ByteArray) ++ K0 = z := ⟨_, rfl⟩
                      have hKY : KY.size = 3 := by rw [← e_KY, ByteArray.size_append]; show 1 + K0.size = 3; omega
                      have zk1 : ¬ (9223372036854775807 < 1 + K0.size) := by omega
                      go_simp
                      refine hK.out _ _ hHeld (fun _ => ?_)
                      clear hK K
                      try simp only [Act.put, List.getElem_toArray, List.getElem_cons_zero, List.getElem_cons_succ, List.setIfInBounds_toArray, List.set_cons_zero, List.set_cons_succ]
                      refine wpAnyH_take (i := 12) (v := .string KY) rfl (by kernel_rfl) (by kernel_rfl) (by kernel_rfl) (fun _ _ _ h => h) (Or.inl ⟨by rfl, fun w hw => by obtain z0 := hw; go_simp⟩) hHeld ?_
                      simp only [Act.put, List.getElem_toArray, List.getElem_cons_zero, List.getElem_cons_succ, List.setIfInBounds_toArray, List.set_cons_zero, List.set_cons_succ]
                      refine wpAnyH_take (i := 15) (v := .agg #[.string KY, .string t]) rfl (by kernel_rfl) (by kernel_rfl) (by kernel_rfl) (fun _ _ _ h => h) (Or.inl ⟨by rfl, fun w hw => by obtain z0 := hw; go_simp⟩) hHeld ?_
                      simp only [Act.put, List.getElem_toArray, List.getElem_cons_zero, List.getElem_cons_succ, List.setIfInBounds_toArray, List.set_cons_zero, List.set_cons_succ]
                      refine wpAnyH_ready (rs := [16]) (by kernel_rfl) (by simp) ?_
                      refine AllReadyH.cons rfl (fun K hK => ?_) AllReadyH.nil
                      go_simp
                      have F16 := F14.below (below_nw _ (.cells #[.string KY, .string t] 101))
                      have hW0 := F14.lt
                      refine hK.out _ _ hHeld (fun _ => ?_)
                      clear hK K
                      try simp only [Act.put, List.getElem_toArray, List.getElem_cons_zero, List.getElem_cons_succ, List.setIfInBounds_toArray, List.set_cons_zero, List.set_cons_succ]
                      refine wpAnyH_ready (rs := [17]) (by kernel_rfl) (by simp) ?_
                      refine AllReadyH.cons rfl (fun K hK => ?_) AllReadyH.nil
                      refine step_append_lies _ (by rfl) _ _ _ (by rfl) w.heap.size 101 i0 (.agg #[.string ByteArray.empty, .string ByteArray.empty]) 2 32 Try.underlying23 HI.out.1 HI.out.2.1 HI.out.2.2.1 HI.out.2.2.2 rfl (by omega) (.slice ya rs.length yc) rs.length _ (by rfl) F16.x.s.own ⟨w5.heap.size, 0, none⟩ 1 1 [.string KY, .string t] (by rfl) rfl (World.news_of_block (heap_alloc_new w5 _)) (onePrA _ _) (by omega) (by unfold maxLen; omega) (by omega) (by simp; omega) (w5.heap.size + 1) (by simp) ?_
                      intro yg ycap w9 hown9 hgrow9 hat9 hlt9
                      have hown9' : w9.ownsRow w.heap.size 101 2 (.slice (some ⟨yg, 0, none⟩) (rs ++ [(KY, t)]).length ycap) (rs ++ [(KY, t)]).length (prcells (rs ++ [(KY, t)])) := by rw [prcells_snocA, List.length_append]; exact hown9
                      obtain ⟨r9, G9⟩ := F16.push hown9' hgrow9 hat9 (by simp)
                      clear hown9 hgrow9 hat9
                      refine hK.out _ _ hHeld (fun _ => ?_)
                      clear hK K
                      try simp only [Act.put, List.getElem_toArray, List.getElem_cons_zero, List.getElem_cons_succ, List.setIfInBounds_toArray, List.set_cons_zero, List.set_cons_succ]
                      refine wpAnyH_take (i := 18) (v := .pointer (some ⟨SB, 0, none⟩)) rfl (by kernel_rfl) (by kernel_rfl) (by kernel_rfl) (fun _ _ _ h => h) (Or.inl ⟨by rfl, fun w hw => by obtain z0 := hw; go_simp⟩) hHeld ?_
                      simp only [Act.put, List.getElem_toArray, List.getElem_cons_zero, List.getElem_cons_succ, List.setIfInBounds_toArray, List.set_cons_zero, List.set_cons_succ]
                      refine wpAnyH_ready (rs := [19]) (by kernel_rfl) (by simp) ?_
                      refine AllReadyH.cons rfl (fun K hK => ?_) AllReadyH.nil
                      have l0 := r9.cell 0 _ rfl
                      have l1 := r9.froz 0 (by simp)
                      have l2 := r9.lt
                      go_simp
                      refine hK.out _ _ hHeld (fun _ => ?_)
                      clear hK K
                      try simp only [Act.put, List.getElem_toArray, List.getElem_cons_zero, List.getElem_cons_succ, List.setIfInBounds_toArray, List.set_cons_zero, List.set_cons_succ]
                      refine wpAnyH_done (by kernel_rfl) ?_ _
                      rw [List.length_append] at G9
                      go_wp2_with fail
                      go_meet
                      exact ⟨KY, t, q2, yg, ycap, by omega, ht, q20, q21, G9⟩
                  · refine step_call (by rfl) 115 #[.pointer (some ⟨R, 0, none⟩)] (by go_simp) (text_r R a n c q _ D.drew.rd (by omega)) ?_
                    rintro e w5 ⟨⟨t, rfl, ht⟩, ⟨q2, q20, q21, hr5⟩, hg5⟩
                    refine ⟨_, rfl, ?_⟩
                    have F14 := D.drew.pick hr5 hg5
                    clear hr5 hg5
                    refine hK.out _ _ hHeld (fun _ => ?_)
                    clear hK K
                    try simp only [Act.put, List.getElem_toArray, List.getElem_cons_zero, List.getElem_cons_succ, List.setIfInBounds_toArray, List.set_cons_zero, List.set_cons_succ]
                    refine wpAnyH_ready (rs := [10]) (by kernel_rfl) (by simp) ?_
                    refine AllReadyH.cons rfl (fun K hK => ?_) AllReadyH.nil
                    go_simp
                    have F10 := (F14.below (below_nw _ (.cells #[.int .u8 (48 + tu), .int .u8 (48 + tv)] 5)))
                    have rT := (row_new w5 #[.int .u8 (48 + tu), .int .u8 (48 + tv)] 5)
                    have yR := F14.x.s.lR
                    have y0 := F14.lt
                    obtain ⟨TB, e_T⟩ : ∃ z, z = w5.heap.size := ⟨_, rfl⟩
                    obtain ⟨wb, e_wb⟩ : ∃ z, z = (w5.alloc (.cells #[.int .u8 (48 + tu), .int .u8 (48 + tv)] 5)) := ⟨_, rfl⟩
                    have hTR : R < TB := by omega
                    rw [← e_wb] at F10
                    rw [← e_wb, ← e_T] at rT
                    rw [← e_wb, ← e_T]
                    clear e_wb e_T
                    refine hK.out _ _ hHeld (fun _ => ?_)
                    clear hK K
                    try simp only [Act.put, List.getElem_toArray, List.getElem_cons_zero, List.getElem_cons_succ, List.setIfInBounds_toArray, List.set_cons_zero, List.set_cons_succ]
                    refine wpAnyH_ready (rs := [11]) (by kernel_rfl) (by simp) ?_
                    refine AllReadyH.cons rfl (fun K hK => ?_) AllReadyH.nil
                    have hcv := bytes_2 _ _ _ _ (rT.cell 0 _ rfl) (rT.cell 1 _ rfl)
                    obtain ⟨K0, e_K0⟩ : ∃ z, z = strOfNums [48 + tu, 48 + tv] := ⟨_, rfl⟩
                    have hK0 : K0.size = 2 := by rw [e_K0, strOfNums_size]; rfl
                    rw [← e_K0] at hcv
                    clear e_K0
                    obtain ⟨KY, e_KY⟩ : ∃ z, (⟨#[122]⟩ : ByteArray) ++ K0 = z := ⟨_, rfl⟩
                    have hKY : KY.size = 3 := by rw [← e_KY, ByteArray.size_append]; show 1 + K0.size = 3; omega
                    have zk1 : ¬ (9223372036854775807 < 1 + K0.size) := by omega
                    go_simp
                    refine hK.out _ _ hHeld (fun _ => ?_)
                    clear hK K
                    try simp only [Act.put, List.getElem_toArray, List.getElem_cons_zero, List.getElem_cons_succ, List.setIfInBounds_toArray, List.set_cons_zero, List.set_cons_succ]
                    refine wpAnyH_take (i := 12) (v := .string KY) rfl (by kernel_rfl) (by kernel_rfl) (by kernel_rfl) (fun _ _ _ h => h) (Or.inl ⟨by rfl, fun w hw => by obtain z0 := hw; go_simp⟩) hHeld ?_
                    simp only [Act.put, List.getElem_toArray, List.getElem_cons_zero, List.getElem_cons_succ, List.setIfInBounds_toArray, List.set_cons_zero, List.set_cons_succ]
                    refine wpAnyH_take (i := 15) (v := .agg #[.string KY, .string t]) rfl (by kernel_rfl) (by kernel_rfl) (by kernel_rfl) (fun _ _ _ h => h) (Or.inl ⟨by rfl, fun w hw => by obtain z0 := hw; go_simp⟩) hHeld ?_
                    simp only [Act.put, List.getElem_toArray, List.getElem_cons_zero, List.getElem_cons_succ, List.setIfInBounds_toArray, List.set_cons_zero, List.set_cons_succ]
                    refine wpAnyH_ready (rs := [16]) (by kernel_rfl) (by simp) ?_
                    refine AllReadyH.cons rfl (fun K hK => ?_) AllReadyH.nil
                    go_simp
                    have F16 := F10.below (below_nw _ (.cells #[.string KY, .string t] 101))
                    have hW0 := F10.lt
                    refine hK.out _ _ hHeld (fun _ => ?_)
                    clear hK K
                    try simp only [Act.put, List.getElem_toArray, List.getElem_cons_zero, List.getElem_cons_succ, List.setIfInBounds_toArray, List.set_cons_zero, List.set_cons_succ]
                    refine wpAnyH_ready (rs := [17]) (by kernel_rfl) (by simp) ?_
                    refine AllReadyH.cons rfl (fun K hK => ?_) AllReadyH.nil
                    refine step_append_lies _ (by rfl) _ _ _ (by rfl) w.heap.size 101 i0 (.agg #[.string ByteArray.empty, .string ByteArray.empty]) 2 32 Try.underlying23 HI.out.1 HI.out.2.1 HI.out.2.2.1 HI.out.2.2.2 rfl (by omega) (.slice ya rs.length yc) rs.length _ (by rfl) F16.x.s.own ⟨wb.heap.size, 0, none⟩ 1 1 [.string KY, .string t] (by rfl) rfl (World.news_of_block (heap_alloc_new wb _)) (onePrA _ _) (by omega) (by unfold maxLen; omega) (by omega) (by simp; omega) (wb.heap.size + 1) (by simp) ?_
                    intro yg ycap w9 hown9 hgrow9 hat9 hlt9
                    have hown9' : w9.ownsRow w.heap.size 101 2 (.slice (some ⟨yg, 0, none⟩) (rs ++ [(KY, t)]).length ycap) (rs ++ [(KY, t)]).length (prcells (rs ++ [(KY, t)])) := by rw [prcells_snocA, List.length_append]; exact hown9
                    obtain ⟨r9, G9⟩ := F16.push hown9' hgrow9 hat9 (by simp)
                    clear hown9 hgrow9 hat9
                    refine hK.out _ _ hHeld (fun _ => ?_)
                    clear hK K
                    try simp only [Act.put, List.getElem_toArray, List.getElem_cons_zero, List.getElem_cons_succ, List.setIfInBounds_toArray, List.set_cons_zero, List.set_cons_succ]
                    refine wpAnyH_take (i := 18) (v := .pointer (some ⟨SB, 0, none⟩)) rfl (by kernel_rfl) (by kernel_rfl) (by kernel_rfl) (fun _ _ _ h => h) (Or.inl ⟨by rfl, fun w hw => by obtain z0 := hw; go_simp⟩) hHeld ?_
                    simp only [Act.put, List.getElem_toArray, List.getElem_cons_zero, List.getElem_cons_succ, List.setIfInBounds_toArray, List.set_cons_zero, List.set_cons_succ]
                    refine wpAnyH_ready (rs := [19]) (by kernel_rfl) (by simp) ?_
                    refine AllReadyH.cons rfl (fun K hK => ?_) AllReadyH.nil
                    have l0 := r9.cell 0 _ rfl
                    have l1 := r9.froz 0 (by simp)
                    have l2 := r9.lt
                    go_simp
                    refine hK.out _ _ hHeld (fun _ => ?_)
                    clear hK K
                    try simp only [Act.put, List.getElem_toArray, List.getElem_cons_zero, List.getElem_cons_succ, List.setIfInBounds_toArray, List.set_cons_zero, List.set_cons_succ]
                    refine wpAnyH_done (by kernel_rfl) ?_ _
                    rw [List.length_append] at G9
                    go_wp2_with fail
                    go_meet
                    exact ⟨KY, t, q2, yg, ycap, by omega, ht, q20, q21, G9⟩
                · go_simp
                  have F10 := (D.below (below_nw _ (.cells #[.int .u8 (48 + tu), .int .u8 (48 + tv)] 5))).drew
                  have rT := (row_new wr #[.int .u8 (48 + tu), .int .u8 (48 + tv)] 5).drew
                  have yR := D.x.s.lR
                  have y0 := D.lt
                  obtain ⟨TB, e_T⟩ : ∃ z, z = wr.heap.size := ⟨_, rfl⟩
                  obtain ⟨wb, e_wb⟩ : ∃ z, z = (wr.alloc (.cells #[.int .u8 (48 + tu), .int .u8 (48 + tv)] 5)).drew := ⟨_, rfl⟩
                  have hTR : R < TB := by omega
                  rw [← e_wb] at F10
                  rw [← e_wb, ← e_T] at rT
                  rw [← e_wb, ← e_T]
                  clear e_wb e_T
                  refine hK.out _ _ hHeld (fun _ => ?_)
                  clear hK K
                  try simp only [Act.put, List.getElem_toArray, List.getElem_cons_zero, List.getElem_cons_succ, List.setIfInBounds_toArray, List.set_cons_zero, List.set_cons_succ]
                  refine wpAnyH_ready (rs := [1, 11, 14]) (by kernel_rfl) (by simp) ?_
                  refine AllReadyH.cons rfl (fun K hK => ?_) (AllReadyH.cons rfl (fun K hK => ?_) (AllReadyH.cons rfl (fun K hK => ?_) AllReadyH.nil))
                  · have l0 := F10.x.row.cell 0 _ rfl
                    go_simp
                    refine hK.out _ _ hHeld (fun _ => ?_)
                    clear hK K
                    try simp only [Act.put, List.getElem_toArray, List.getElem_cons_zero, List.getElem_cons_succ, List.setIfInBounds_toArray, List.set_cons_zero, List.set_cons_succ]
                    refine wpAnyH_ready (rs := [11, 14]) (by kernel_rfl) (by simp) ?_
                    refine AllReadyH.cons rfl (fun K hK => ?_) (AllReadyH.cons rfl (fun K hK => ?_) AllReadyH.nil)
                    · have hcv := bytes_2 _ _ _ _ (rT.cell 0 _ rfl) (rT.cell 1 _ rfl)
                      obtain ⟨K0, e_K0⟩ : ∃ z, z = strOfNums [48 + tu, 48 + tv] := ⟨_, rfl⟩
                      have hK0 : K0.size = 2 := by rw [e_K0, strOfNums_size]; rfl
                      rw [← e_K0] at hcv
                      clear e_K0
                      obtain ⟨KY, e_KY⟩ : ∃ z, (⟨#[122]⟩ : ByteArray) ++ K0 = z := ⟨_, rfl⟩
                      have hKY : KY.size = 3 := by rw [← e_KY, ByteArray.size_append]; show 1 + K0.size = 3; omega
                      have zk1 : ¬ (9223372036854775807 < 1 + K0.size) := by omega
                      go_simp
                      refine hK.out _ _ hHeld (fun _ => ?_)
                      clear hK K
                      try simp only [Act.put, List.getElem_toArray, List.getElem_cons_zero, List.getElem_cons_succ, List.setIfInBounds_toArray, List.set_cons_zero, List.set_cons_succ]
                      refine wpAnyH_take (i := 12) (v := .string KY) rfl (by kernel_rfl) (by kernel_rfl) (by kernel_rfl) (fun _ _ _ h => h) (Or.inl ⟨by rfl, fun w hw => by obtain z0 := hw; go_simp⟩) hHeld ?_
                      simp only [Act.put, List.getElem_toArray, List.getElem_cons_zero, List.getElem_cons_succ, List.setIfInBounds_toArray, List.set_cons_zero, List.set_cons_succ]
                      refine wpAnyH_ready (rs := [14]) (by kernel_rfl) (by simp) ?_
                      refine AllReadyH.cons rfl (fun K hK => ?_) AllReadyH.nil
                      refine step_call (by rfl) 115 #[.pointer (some ⟨R, 0, none⟩)] (by go_simp) (text_r R a n c q _ F10.rd (by omega)) ?_
                      rintro e w5 ⟨⟨t, rfl, ht⟩, ⟨q2, q20, q21, hr5⟩, hg5⟩
                      refine ⟨_, rfl, ?_⟩
                      have F14 := F10.pick hr5 hg5
                      have rT := rT.grown hg5 (fun e => by injection e with e; omega)
                      clear hr5 hg5
                      refine hK.out _ _ hHeld (fun _ => ?_)
                      clear hK K
                      try simp only [Act.put, List.getElem_toArray, List.getElem_cons_zero, List.getElem_cons_succ, List.setIfInBounds_toArray, List.set_cons_zero, List.set_cons_succ]
                      refine wpAnyH_take (i := 15) (v := .agg #[.string KY, .string t]) rfl (by kernel_rfl) (by kernel_rfl) (by kernel_rfl) (fun _ _ _ h => h) (Or.inl ⟨by rfl, fun w hw => by obtain z0 := hw; go_simp⟩) hHeld ?_
                      simp only [Act.put, List.getElem_toArray, List.getElem_cons_zero, List.getElem_cons_succ, List.setIfInBounds_toArray, List.set_cons_zero, List.set_cons_succ]
                      refine wpAnyH_ready (rs := [16]) (by kernel_rfl) (by simp) ?_
                      refine AllReadyH.cons rfl (fun K hK => ?_) AllReadyH.nil
                      go_simp
                      have F16 := F14.below (below_nw _ (.cells #[.string KY, .string t] 101))
                      have hW0 := F14.lt
                      refine hK.out _ _ hHeld (fun _ => ?_)
                      clear hK K
                      try simp only [Act.put, List.getElem_toArray, List.getElem_cons_zero, List.getElem_cons_succ, List.setIfInBounds_toArray, List.set_cons_zero, List.set_cons_succ]
                      refine wpAnyH_ready (rs := [17]) (by kernel_rfl) (by simp) ?_
                      refine AllReadyH.cons rfl (fun K hK => ?_) AllReadyH.nil
                      refine step_append_lies _ (by rfl) _ _ _ (by rfl) w.heap.size 101 i0 (.agg #[.string ByteArray.empty, .string ByteArray.empty]) 2 32 Try.underlying23 HI.out.1 HI.out.2.1 HI.out.2.2.1 HI.out.2.2.2 rfl (by omega) (.slice ya rs.length yc) rs.length _ (by rfl) F16.x.s.own ⟨w5.heap.size, 0, none⟩ 1 1 [.string KY, .string t] (by rfl) rfl (World.news_of_block (heap_alloc_new w5 _)) (onePrA _ _) (by omega) (by unfold maxLen; omega) (by omega) (by simp; omega) (w5.heap.size + 1) (by simp) ?_
                      intro yg ycap w9 hown9 hgrow9 hat9 hlt9
                      have hown9' : w9.ownsRow w.heap.size 101 2 (.slice (some ⟨yg, 0, none⟩) (rs ++ [(KY, t)]).length ycap) (rs ++ [(KY, t)]).length (prcells (rs ++ [(KY, t)])) := by rw [prcells_snocA, List.length_append]; exact hown9
                      obtain ⟨r9, G9⟩ := F16.push hown9' hgrow9 hat9 (by simp)
                      clear hown9 hgrow9 hat9
                      refine hK.out _ _ hHeld (fun _ => ?_)
                      clear hK K
                      try simp only [Act.put, List.getElem_toArray, List.getElem_cons_zero, List.getElem_cons_succ, List.setIfInBounds_toArray, List.set_cons_zero, List.set_cons_succ]
                      refine wpAnyH_take (i := 18) (v := .pointer (some ⟨SB, 0, none⟩)) rfl (by kernel_rfl) (by kernel_rfl) (by kernel_rfl) (fun _ _ _ h => h) (Or.inl ⟨by rfl, fun w hw => by obtain z0 := hw; go_simp⟩) hHeld ?_
                      simp only [Act.put, List.getElem_toArray, List.getElem_cons_zero, List.getElem_cons_succ, List.setIfInBounds_toArray, List.set_cons_zero, List.set_cons_succ]
                      refine wpAnyH_ready (rs := [19]) (by kernel_rfl) (by simp) ?_
                      refine AllReadyH.cons rfl (fun K hK => ?_) AllReadyH.nil
                      have l0 := r9.cell 0 _ rfl
                      have l1 := r9.froz 0 (by simp)
                      have l2 := r9.lt
                      go_simp
                      refine hK.out _ _ hHeld (fun _ => ?_)
                      clear hK K
                      try simp only [Act.put, List.getElem_toArray, List.getElem_cons_zero, List.getElem_cons_succ, List.setIfInBounds_toArray, List.set_cons_zero, List.set_cons_succ]
                      refine wpAnyH_done (by kernel_rfl) ?_ _
                      rw [List.length_append] at G9
                      go_wp2_with fail
                      go_meet
                      exact ⟨KY, t, q2, yg, ycap, by omega, ht, q20, q21, G9⟩
                    · refine step_call (by rfl) 115 #[.pointer (some ⟨R, 0, none⟩)] (by go_simp) (text_r R a n c q _ F10.rd (by omega)) ?_
                      rintro e w5 ⟨⟨t, rfl, ht⟩, ⟨q2, q20, q21, hr5⟩, hg5⟩
                      refine ⟨_, rfl, ?_⟩
                      have F14 := F10.pick hr5 hg5
                      have rT := rT.grown hg5 (fun e => by injection e with e; omega)
                      clear hr5 hg5
                      refine hK.out _ _ hHeld (fun _ => ?_)
                      clear hK K
                      try simp only [Act.put, List.getElem_toArray, List.getElem_cons_zero, List.getElem_cons_succ, List.setIfInBounds_toArray, List.set_cons_zero, List.set_cons_succ]
                      refine wpAnyH_ready (rs := [11]) (by kernel_rfl) (by simp) ?_
                      refine AllReadyH.cons rfl (fun K hK => ?_) AllReadyH.nil
                      have hcv := bytes_2 _ _ _ _ (rT.cell 0 _ rfl) (rT.cell 1 _ rfl)
                      obtain ⟨K0, e_K0⟩ : ∃ z, z = strOfNums [48 + tu, 48 + tv] := ⟨_, rfl⟩
                      have hK0 : K0.size = 2 := by rw [e_K0, strOfNums_size]; rfl
                      rw [← e_K0] at hcv
                      clear e_K0
                      obtain ⟨KY, e_KY⟩ : ∃ z, (⟨#[122]⟩ : ByteArray) ++ K0 = z := ⟨_, rfl⟩
                      have hKY : KY.size = 3 := by rw [← e_KY, ByteArray.size_append]; show 1 + K0.size = 3; omega
                      have zk1 : ¬ (9223372036854775807 < 1 + K0.size) := by omega
                      go_simp
                      refine hK.out _ _ hHeld (fun _ => ?_)
                      clear hK K
                      try simp only [Act.put, List.getElem_toArray, List.getElem_cons_zero, List.getElem_cons_succ, List.setIfInBounds_toArray, List.set_cons_zero, List.set_cons_succ]
                      refine wpAnyH_take (i := 12) (v := .string KY) rfl (by kernel_rfl) (by kernel_rfl) (by kernel_rfl) (fun _ _ _ h => h) (Or.inl ⟨by rfl, fun w hw => by obtain z0 := hw; go_simp⟩) hHeld ?_
                      simp only [Act.put, List.getElem_toArray, List.getElem_cons_zero, List.getElem_cons_succ, List.setIfInBounds_toArray, List.set_cons_zero, List.set_cons_succ]
                      refine wpAnyH_take (i := 15) (v := .agg #[.string KY, .string t]) rfl (by kernel_rfl) (by kernel_rfl) (by kernel_rfl) (fun _ _ _ h => h) (Or.inl ⟨by rfl, fun w hw => by obtain z0 := hw; go_simp⟩) hHeld ?_
                      simp only [Act.put, List.getElem_toArray, List.getElem_cons_zero, List.getElem_cons_succ, List.setIfInBounds_toArray, List.set_cons_zero, List.set_cons_succ]
                      refine wpAnyH_ready (rs := [16]) (by kernel_rfl) (by simp) ?_
                      refine AllReadyH.cons rfl (fun K hK => ?_) AllReadyH.nil
                      go_simp
                      have F16 := F14.below (below_nw _ (.cells #[.string KY, .string t] 101))
                      have hW0 := F14.lt
                      refine hK.out _ _ hHeld (fun _ => ?_)
                      clear hK K
                      try simp only [Act.put, List.getElem_toArray, List.getElem_cons_zero, List.getElem_cons_succ, List.setIfInBounds_toArray, List.set_cons_zero, List.set_cons_succ]
                      refine wpAnyH_ready (rs := [17]) (by kernel_rfl) (by simp) ?_
                      refine AllReadyH.cons rfl (fun K hK => ?_) AllReadyH.nil
                      refine step_append_lies _ (by rfl) _ _ _ (by rfl) w.heap.size 101 i0 (.agg #[.string ByteArray.empty, .string ByteArray.empty]) 2 32 Try.underlying23 HI.out.1 HI.out.2.1 HI.out.2.2.1 HI.out.2.2.2 rfl (by omega) (.slice ya rs.length yc) rs.length _ (by rfl) F16.x.s.own ⟨w5.heap.size, 0, none⟩ 1 1 [.string KY, .string t] (by rfl) rfl (World.news_of_block (heap_alloc_new w5 _)) (onePrA _ _) (by omega) (by unfold maxLen; omega) (by omega) (by simp; omega) (w5.heap.size + 1) (by simp) ?_
                      intro yg ycap w9 hown9 hgrow9 hat9 hlt9
                      have hown9' : w9.ownsRow w.heap.size 101 2 (.slice (some ⟨yg, 0, none⟩) (rs ++ [(KY, t)]).length ycap) (rs ++ [(KY, t)]).length (prcells (rs ++ [(KY, t)])) := by rw [prcells_snocA, List.length_append]; exact hown9
                      obtain ⟨r9, G9⟩ := F16.push hown9' hgrow9 hat9 (by simp)
                      clear hown9 hgrow9 hat9
                      refine hK.out _ _ hHeld (fun _ => ?_)
                      clear hK K
                      try simp only [Act.put, List.getElem_toArray, List.getElem_cons_zero, List.getElem_cons_succ, List.setIfInBounds_toArray, List.set_cons_zero, List.set_cons_succ]
                      refine wpAnyH_take (i := 18) (v := .pointer (some ⟨SB, 0, none⟩)) rfl (by kernel_rfl) (by kernel_rfl) (by kernel_rfl) (fun _ _ _ h => h) (Or.inl ⟨by rfl, fun w hw => by obtain z0 := hw; go_simp⟩) hHeld ?_
                      simp only [Act.put, List.getElem_toArray, List.getElem_cons_zero, List.getElem_cons_succ, List.setIfInBounds_toArray, List.set_cons_zero, List.set_cons_succ]
                      refine wpAnyH_ready (rs := [19]) (by kernel_rfl) (by simp) ?_
                      refine AllReadyH.cons rfl (fun K hK => ?_) AllReadyH.nil
                      have l0 := r9.cell 0 _ rfl
                      have l1 := r9.froz 0 (by simp)
                      have l2 := r9.lt
                      go_simp
                      refine hK.out _ _ hHeld (fun _ => ?_)
                      clear hK K
                      try simp only [Act.put, List.getElem_toArray, List.getElem_cons_zero, List.getElem_cons_succ, List.setIfInBounds_toArray, List.set_cons_zero, List.set_cons_succ]
                      refine wpAnyH_done (by kernel_rfl) ?_ _
                      rw [List.length_append] at G9
                      go_wp2_with fail
                      go_meet
                      exact ⟨KY, t, q2, yg, ycap, by omega, ht, q20, q21, G9⟩
                  · have hcv := bytes_2 _ _ _ _ (rT.cell 0 _ rfl) (rT.cell 1 _ rfl)
                    obtain ⟨K0, e_K0⟩ : ∃ z, z = strOfNums [48 + tu, 48 + tv] := ⟨_, rfl⟩
                    have hK0 : K0.size = 2 := by rw [e_K0, strOfNums_size]; rfl
                    rw [← e_K0] at hcv
                    clear e_K0
                    obtain ⟨KY, e_KY⟩ : ∃ z, (⟨#[122]⟩ : ByteArray) ++ K0 = z := ⟨_, rfl⟩
                    have hKY : KY.size = 3 := by rw [← e_KY, ByteArray.size_append]; show 1 + K0.size = 3; omega
                    have zk1 : ¬ (9223372036854775807 < 1 + K0.size) := by omega
                    go_simp
                    refine hK.out _ _ hHeld (fun _ => ?_)
                    clear hK K
                    try simp only [Act.put, List.getElem_toArray, List.getElem_cons_zero, List.getElem_cons_succ, List.setIfInBounds_toArray, List.set_cons_zero, List.set_cons_succ]
                    refine wpAnyH_take (i := 12) (v := .string KY) rfl (by kernel_rfl) (by kernel_rfl) (by kernel_rfl) (fun _ _ _ h => h) (Or.inl ⟨by rfl, fun w hw => by obtain z0 := hw; go_simp⟩) hHeld ?_
                    simp only [Act.put, List.getElem_toArray, List.getElem_cons_zero, List.getElem_cons_succ, List.setIfInBounds_toArray, List.set_cons_zero, List.set_cons_succ]
                    refine wpAnyH_ready (rs := [1, 14]) (by kernel_rfl) (by simp) ?_
                    refine AllReadyH.cons rfl (fun K hK => ?_) (AllReadyH.cons rfl (fun K hK => ?_) AllReadyH.nil)
                    · have l0 := F10.x.row.cell 0 _ rfl
                      go_simp
                      refine hK.out _ _ hHeld (fun _ => ?_)
                      clear hK K
                      try simp only [Act.put, List.getElem_toArray, List.getElem_cons_zero, List.getElem_cons_succ, List.setIfInBounds_toArray, List.set_cons_zero, List.set_cons_succ]
                      refine wpAnyH_ready (rs := [14]) (by kernel_rfl) (by simp) ?_
                      refine AllReadyH.cons rfl (fun K hK => ?_) AllReadyH.nil
                      refine step_call (by rfl) 115 #[.pointer (some ⟨R, 0, none⟩)] (by go_simp) (text_r R a n c q _ F10.rd (by omega)) ?_
                      rintro e w5 ⟨⟨t, rfl, ht⟩, ⟨q2, q20, q21, hr5⟩, hg5⟩
                      refine ⟨_, rfl, ?_⟩
                      have F14 := F10.pick hr5 hg5
                      have rT := rT.grown hg5 (fun e => by injection e with e; omega)
                      clear hr5 hg5
                      refine hK.out _ _ hHeld (fun _ => ?_)
                      clear hK K
                      try simp only [Act.put, List.getElem_toArray, List.getElem_cons_zero, List.getElem_cons_succ, List.setIfInBounds_toArray, List.set_cons_zero, List.set_cons_succ]
                      refine wpAnyH_take (i := 15) (v := .agg #[.string KY, .string t]) rfl (by kernel_rfl) (by kernel_rfl) (by kernel_rfl) (fun _ _ _ h => h) (Or.inl ⟨by rfl, fun w hw => by obtain z0 := hw; go_simp⟩) hHeld ?_
                      simp only [Act.put, List.getElem_toArray, List.getElem_cons_zero, List.getElem_cons_succ, List.setIfInBounds_toArray, List.set_cons_zero, List.set_cons_succ]
                      refine wpAnyH_ready (rs := [16]) (by kernel_rfl) (by simp) ?_
                      refine AllReadyH.cons rfl (fun K hK => ?_) AllReadyH.nil
                      go_simp
                      have F16 := F14.below (below_nw _ (.cells #[.string KY, .string t] 101))
                      have hW0 := F14.lt
                      refine hK.out _ _ hHeld (fun _ => ?_)
                      clear hK K
                      try simp only [Act.put, List.getElem_toArray, List.getElem_cons_zero, List.getElem_cons_succ, List.setIfInBounds_toArray, List.set_cons_zero, List.set_cons_succ]
                      refine wpAnyH_ready (rs := [17]) (by kernel_rfl) (by simp) ?_
                      refine AllReadyH.cons rfl (fun K hK => ?_) AllReadyH.nil
                      refine step_append_lies _ (by rfl) _ _ _ (by rfl) w.heap.size 101 i0 (.agg #[.string ByteArray.empty, .string ByteArray.empty]) 2 32 Try.underlying23 HI.out.1 HI.out.2.1 HI.out.2.2.1 HI.out.2.2.2 rfl (by omega) (.slice ya rs.length yc) rs.length _ (by rfl) F16.x.s.own ⟨w5.heap.size, 0, none⟩ 1 1 [.string KY, .string t] (by rfl) rfl (World.news_of_block (heap_alloc_new w5 _)) (onePrA _ _) (by omega) (by unfold maxLen; omega) (by omega) (by simp; omega) (w5.heap.size + 1) (by simp) ?_
                      intro yg ycap w9 hown9 hgrow9 hat9 hlt9
                      have hown9' : w9.ownsRow w.heap.size 101 2 (.slice (some ⟨yg, 0, none⟩) (rs ++ [(KY, t)]).length ycap) (rs ++ [(KY, t)]).length (prcells (rs ++ [(KY, t)])) := by rw [prcells_snocA, List.length_append]; exact hown9
                      obtain ⟨r9, G9⟩ := F16.push hown9' hgrow9 hat9 (by simp)
                      clear hown9 hgrow9 hat9
                      refine hK.out _ _ hHeld (fun _ => ?_)
                      clear hK K
                      try simp only [Act.put, List.getElem_toArray, List.getElem_cons_zero, List.getElem_cons_succ, List.setIfInBounds_toArray, List.set_cons_zero, List.set_cons_succ]
                      refine wpAnyH_take (i := 18) (v := .pointer (some ⟨SB, 0, none⟩)) rfl (by kernel_rfl) (by kernel_rfl) (by kernel_rfl) (fun _ _ _ h => h) (Or.inl ⟨by rfl, fun w hw => by obtain z0 := hw; go_simp⟩) hHeld ?_
                      simp only [Act.put, List.getElem_toArray, List.getElem_cons_zero, List.getElem_cons_succ, List.setIfInBounds_toArray, List.set_cons_zero, List.set_cons_succ]
                      refine wpAnyH_ready (rs := [19]) (by kernel_rfl) (by simp) ?_
                      refine AllReadyH.cons rfl (fun K hK => ?_) AllReadyH.nil
                      have l0 := r9.cell 0 _ rfl
                      have l1 := r9.froz 0 (by simp)
                      have l2 := r9.lt
                      go_simp
                      refine hK.out _ _ hHeld (fun _ => ?_)
                      clear hK K
                      try simp only [Act.put, List.getElem_toArray, List.getElem_cons_zero, List.getElem_cons_succ, List.setIfInBounds_toArray, List.set_cons_zero, List.set_cons_succ]
                      refine wpAnyH_done (by kernel_rfl) ?_ _
                      rw [List.length_append] at G9
                      go_wp2_with fail
                      go_meet
                      exact ⟨KY, t, q2, yg, ycap, by omega, ht, q20, q21, G9⟩
                    · refine step_call (by rfl) 115 #[.pointer (some ⟨R, 0, none⟩)] (by go_simp) (text_r R a n c q _ F10.rd (by omega)) ?_
                      rintro e w5 ⟨⟨t, rfl, ht⟩, ⟨q2, q20, q21, hr5⟩, hg5⟩
                      refine ⟨_, rfl, ?_⟩
                      have F14 := F10.pick hr5 hg5
                      have rT := rT.grown hg5 (fun e => by injection e with e; omega)
                      clear hr5 hg5
                      refine hK.out _ _ hHeld (fun _ => ?_)
                      clear hK K
                      try simp only [Act.put, List.getElem_toArray, List.getElem_cons_zero, List.getElem_cons_succ, List.setIfInBounds_toArray, List.set_cons_zero, List.set_cons_succ]
                      refine wpAnyH_take (i := 15) (v := .agg #[.string KY, .string t]) rfl (by kernel_rfl) (by kernel_rfl) (by kernel_rfl) (fun _ _ _ h => h) (Or.inl ⟨by rfl, fun w hw => by obtain z0 := hw; go_simp⟩) hHeld ?_
                      simp only [Act.put, List.getElem_toArray, List.getElem_cons_zero, List.getElem_cons_succ, List.setIfInBounds_toArray, List.set_cons_zero, List.set_cons_succ]
                      refine wpAnyH_ready (rs := [1, 16]) (by kernel_rfl) (by simp) ?_
                      refine AllReadyH.cons rfl (fun K hK => ?_) (AllReadyH.cons rfl (fun K hK => ?_) AllReadyH.nil)
                      · have l0 := F14.x.row.cell 0 _ rfl
                        go_simp
                        refine hK.out _ _ hHeld (fun _ => ?_)
                        clear hK K
                        try simp only [Act.put, List.getElem_toArray, List.getElem_cons_zero, List.getElem_cons_succ, List.setIfInBounds_toArray, List.set_cons_zero, List.set_cons_succ]
                        refine wpAnyH_ready (rs := [16]) (by kernel_rfl) (by simp) ?_
                        refine AllReadyH.cons rfl (fun K hK => ?_) AllReadyH.nil
                        go_simp
                        have F16 := F14.below (below_nw _ (.cells #[.string KY, .string t] 101))
                        have hW0 := F14.lt
                        refine hK.out _ _ hHeld (fun _ => ?_)
                        clear hK K
                        try simp only [Act.put, List.getElem_toArray, List.getElem_cons_zero, List.getElem_cons_succ, List.setIfInBounds_toArray, List.set_cons_zero, List.set_cons_succ]
                        refine wpAnyH_ready (rs := [17]) (by kernel_rfl) (by simp) ?_
                        refine AllReadyH.cons rfl (fun K hK => ?_) AllReadyH.nil
                        refine step_append_lies _ (by rfl) _ _ _ (by rfl) w.heap.size 101 i0 (.agg #[.string ByteArray.empty, .string ByteArray.empty]) 2 32 Try.underlying23 HI.out.1 HI.out.2.1 HI.out.2.2.1 HI.out.2.2.2 rfl (by omega) (.slice ya rs.length yc) rs.length _ (by rfl) F16.x.s.own ⟨w5.heap.size, 0, none⟩ 1 1 [.string KY, .string t] (by rfl) rfl (World.news_of_block (heap_alloc_new w5 _)) (onePrA _ _) (by omega) (by unfold maxLen; omega) (by omega) (by simp; omega) (w5.heap.size + 1) (by simp) ?_
                        intro yg ycap w9 hown9 hgrow9 hat9 hlt9
                        have hown9' : w9.ownsRow w.heap.size 101 2 (.slice (some ⟨yg, 0, none⟩) (rs ++ [(KY, t)]).length ycap) (rs ++ [(KY, t)]).length (prcells (rs ++ [(KY, t)])) := by rw [prcells_snocA, List.length_append]; exact hown9
                        obtain ⟨r9, G9⟩ := F16.push hown9' hgrow9 hat9 (by simp)
                        clear hown9 hgrow9 hat9
                        refine hK.out _ _ hHeld (fun _ => ?_)
                        clear hK K
                        try simp only [Act.put, List.getElem_toArray, List.getElem_cons_zero, List.getElem_cons_succ, List.setIfInBounds_toArray, List.set_cons_zero, List.set_cons_succ]
                        refine wpAnyH_take (i := 18) (v := .pointer (some ⟨SB, 0, none⟩)) rfl (by kernel_rfl) (by kernel_rfl) (by kernel_rfl) (fun _ _ _ h => h) (Or.inl ⟨by rfl, fun w hw => by obtain z0 := hw; go_simp⟩) hHeld ?_
                        simp only [Act.put, List.getElem_toArray, List.getElem_cons_zero, List.getElem_cons_succ, List.setIfInBounds_toArray, List.set_cons_zero, List.set_cons_succ]
                        refine wpAnyH_ready (rs := [19]) (by kernel_rfl) (by simp) ?_
                        refine AllReadyH.cons rfl (fun K hK => ?_) AllReadyH.nil
                        have l0 := r9.cell 0 _ rfl
                        have l1 := r9.froz 0 (by simp)
                        have l2 := r9.lt
                        go_simp
                        refine hK.out _ _ hHeld (fun _ => ?_)
                        clear hK K
                        try simp only [Act.put, List.getElem_toArray, List.getElem_cons_zero, List.getElem_cons_succ, List.setIfInBounds_toArray, List.set_cons_zero, List.set_cons_succ]
                        refine wpAnyH_done (by kernel_rfl) ?_ _
                        rw [List.length_append] at G9
                        go_wp2_with fail
                        go_meet
                        exact ⟨KY, t, q2, yg, ycap, by omega, ht, q20, q21, G9⟩
                      · go_simp
                        have F16 := F14.below (below_nw _ (.cells #[.string KY, .string t] 101))
                        have hW0 := F14.lt
                        refine hK.out _ _ hHeld (fun _ => ?_)
                        clear hK K
                        try simp only [Act.put, List.getElem_toArray, List.getElem_cons_zero, List.getElem_cons_succ, List.setIfInBounds_toArray, List.set_cons_zero, List.set_cons_succ]
                        refine wpAnyH_ready (rs := [1]) (by kernel_rfl) (by simp) ?_
                        refine AllReadyH.cons rfl (fun K hK => ?_) AllReadyH.nil
                        have l0 := F16.x.row.cell 0 _ rfl
                        go_simp
                        refine hK.out _ _ hHeld (fun _ => ?_)
                        clear hK K
                        try simp only [Act.put, List.getElem_toArray, List.getElem_cons_zero, List.getElem_cons_succ, List.setIfInBounds_toArray, List.set_cons_zero, List.set_cons_succ]
                        refine wpAnyH_ready (rs := [17]) (by kernel_rfl) (by simp) ?_
                        refine AllReadyH.cons rfl (fun K hK => ?_) AllReadyH.nil
                        refine step_append_lies _ (by rfl) _ _ _ (by rfl) w.heap.size 101 i0 (.agg #[.string ByteArray.empty, .string ByteArray.empty]) 2 32 Try.underlying23 HI.out.1 HI.out.2.1 HI.out.2.2.1 HI.out.2.2.2 rfl (by omega) (.slice ya rs.length yc) rs.length _ (by rfl) F16.x.s.own ⟨w5.heap.size, 0, none⟩ 1 1 [.string KY, .string t] (by rfl) rfl (World.news_of_block (heap_alloc_new w5 _)) (onePrA _ _) (by omega) (by unfold maxLen; omega) (by omega) (by simp; omega) (w5.heap.size + 1) (by simp) ?_
                        intro yg ycap w9 hown9 hgrow9 hat9 hlt9
                        have hown9' : w9.ownsRow w.heap.size 101 2 (.slice (some ⟨yg, 0, none⟩) (rs ++ [(KY, t)]).length ycap) (rs ++ [(KY, t)]).length (prcells (rs ++ [(KY, t)])) := by rw [prcells_snocA, List.length_append]; exact hown9
                        obtain ⟨r9, G9⟩ := F16.push hown9' hgrow9 hat9 (by simp)
                        clear hown9 hgrow9 hat9
                        refine hK.out _ _ hHeld (fun _ => ?_)
                        clear hK K
                        try simp only [Act.put, List.getElem_toArray, List.getElem_cons_zero, List.getElem_cons_succ, List.setIfInBounds_toArray, List.set_cons_zero, List.set_cons_succ]
                        refine wpAnyH_take (i := 18) (v := .pointer (some ⟨SB, 0, none⟩)) rfl (by kernel_rfl) (by kernel_rfl) (by kernel_rfl) (fun _ _ _ h => h) (Or.inl ⟨by rfl, fun w hw => by obtain z0 := hw; go_simp⟩) hHeld ?_
                        simp only [Act.put, List.getElem_toArray, List.getElem_cons_zero, List.getElem_cons_succ, List.setIfInBounds_toArray, List.set_cons_zero, List.set_cons_succ]
                        refine wpAnyH_ready (rs := [19]) (by kernel_rfl) (by simp) ?_
                        refine AllReadyH.cons rfl (fun K hK => ?_) AllReadyH.nil
                        have l0 := r9.cell 0 _ rfl
                        have l1 := r9.froz 0 (by simp)
                        have l2 := r9.lt
                        go_simp
                        refine hK.out _ _ hHeld (fun _ => ?_)
                        clear hK K
                        try simp only [Act.put, List.getElem_toArray, List.getElem_cons_zero, List.getElem_cons_succ, List.setIfInBounds_toArray, List.set_cons_zero, List.set_cons_succ]
                        refine wpAnyH_done (by kernel_rfl) ?_ _
                        rw [List.length_append] at G9
                        go_wp2_with fail
                        go_meet
                        exact ⟨KY, t, q2, yg, ycap, by omega, ht, q20, q21, G9⟩
                  · refine step_call (by rfl) 115 #[.pointer (some ⟨R, 0, none⟩)] (by go_simp) (text_r R a n c q _ F10.rd (by omega)) ?_
                    rintro e w5 ⟨⟨t, rfl, ht⟩, ⟨q2, q20, q21, hr5⟩, hg5⟩
                    refine ⟨_, rfl, ?_⟩
                    have F14 := F10.pick hr5 hg5
                    have rT := rT.grown hg5 (fun e => by injection e with e; omega)
                    clear hr5 hg5
                    refine hK.out _ _ hHeld (fun _ => ?_)
                    clear hK K
                    try simp only [Act.put, List.getElem_toArray, List.getElem_cons_zero, List.getElem_cons_succ, List.setIfInBounds_toArray, List.set_cons_zero, List.set_cons_succ]
                    refine wpAnyH_ready (rs := [1, 11]) (by kernel_rfl) (by simp) ?_
                    refine AllReadyH.cons rfl (fun K hK => ?_) (AllReadyH.cons rfl (fun K hK => ?_) AllReadyH.nil)
                    · have l0 := F14.x.row.cell 0 _ rfl
                      go_simp
                      refine hK.out _ _ hHeld (fun _ => ?_)
                      clear hK K
                      try simp only [Act.put, List.getElem_toArray, List.getElem_cons_zero, List.getElem_cons_succ, List.setIfInBounds_toArray, List.set_cons_zero, List.set_cons_succ]
                      refine wpAnyH_ready (rs := [11]) (by kernel_rfl) (by simp) ?_
                      refine AllReadyH.cons rfl (fun K hK => ?_) AllReadyH.nil
                      have hcv := bytes_2 _ _ _ _ (rT.cell 0 _ rfl) (rT.cell 1 _ rfl)
                      obtain ⟨K0, e_K0⟩ : ∃ z, z = strOfNums [48 + tu, 48 + tv] := ⟨_, rfl⟩
                      have hK0 : K0.size = 2 := by rw [e_K0, strOfNums_size]; rfl
                      rw [← e_K0] at hcv
                      clear e_K0
                      obtain ⟨KY, e_KY⟩ : ∃ z, (⟨#[122]⟩ : ByteArray) ++ K0 = z := ⟨_, rfl⟩
                      have hKY : KY.size = 3 := by rw [← e_KY, ByteArray.size_append]; show 1 + K0.size = 3; omega
                      have zk1 : ¬ (9223372036854775807 < 1 + K0.size) := by omega
                      go_simp
                      refine hK.out _ _ hHeld (fun _ => ?_)
                      clear hK K
                      try simp only [Act.put, List.getElem_toArray, List.getElem_cons_zero, List.getElem_cons_succ, List.setIfInBounds_toArray, List.set_cons_zero, List.set_cons_succ]
                      refine wpAnyH_take (i := 12) (v := .string KY) rfl (by kernel_rfl) (by kernel_rfl) (by kernel_rfl) (fun _ _ _ h => h) (Or.inl ⟨by rfl, fun w hw => by obtain z0 := hw; go_simp⟩) hHeld ?_
                      simp only [Act.put, List.getElem_toArray, List.getElem_cons_zero, List.getElem_cons_succ, List.setIfInBounds_toArray, List.set_cons_zero, List.set_cons_succ]
                      refine wpAnyH_take (i := 15) (v := .agg #[.string KY, .string t]) rfl (by kernel_rfl) (by kernel_rfl) (by kernel_rfl) (fun _ _ _ h => h) (Or.inl ⟨by rfl, fun w hw => by obtain z0 := hw; go_simp⟩) hHeld ?_
                      simp only [Act.put, List.getElem_toArray, List.getElem_cons_zero, List.getElem_cons_succ, List.setIfInBounds_toArray, List.set_cons_zero, List.set_cons_succ]
                      refine wpAnyH_ready (rs := [16]) (by kernel_rfl) (by simp) ?_
                      refine AllReadyH.cons rfl (fun K hK => ?_) AllReadyH.nil
                      go_simp
                      have F16 := F14.below (below_nw _ (.cells #[.string KY, .string t] 101))
                      have hW0 := F14.lt
                      refine hK.out _ _ hHeld (fun _ => ?_)
                      clear hK K
                      try simp only [Act.put, List.getElem_toArray, List.getElem_cons_zero, List.getElem_cons_succ, List.setIfInBounds_toArray, List.set_cons_zero, List.set_cons_succ]
                      refine wpAnyH_ready (rs := [17]) (by kernel_rfl) (by simp) ?_
                      refine AllReadyH.cons rfl (fun K hK => ?_) AllReadyH.nil
                      refine step_append_lies _ (by rfl) _ _ _ (by rfl) w.heap.size 101 i0 (.agg #[.string ByteArray.empty, .string ByteArray.empty]) 2 32 Try.underlying23 HI.out.1 HI.out.2.1 HI.out.2.2.1 HI.out.2.2.2 rfl (by omega) (.slice ya rs.length yc) rs.length _ (by rfl) F16.x.s.own ⟨w5.heap.size, 0, none⟩ 1 1 [.string KY, .string t] (by rfl) rfl (World.news_of_block (heap_alloc_new w5 _)) (onePrA _ _) (by omega) (by unfold maxLen; omega) (by omega) (by simp; omega) (w5.heap.size + 1) (by simp) ?_
                      intro yg ycap w9 hown9 hgrow9 hat9 hlt9
                      have hown9' : w9.ownsRow w.heap.size 101 2 (.slice (some ⟨yg, 0, none⟩) (rs ++ [(KY, t)]).length ycap) (rs ++ [(KY, t)]).length (prcells (rs ++ [(KY, t)])) := by rw [prcells_snocA, List.length_append]; exact hown9
                      obtain ⟨r9, G9⟩ := F16.push hown9' hgrow9 hat9 (by simp)
                      clear hown9 hgrow9 hat9
                      refine hK.out _ _ hHeld (fun _ => ?_)
                      clear hK K
                      try simp only [Act.put, List.getElem_toArray, List.getElem_cons_zero, List.getElem_cons_succ, List.setIfInBounds_toArray, List.set_cons_zero, List.set_cons_succ]
                      refine wpAnyH_take (i := 18) (v := .pointer (some ⟨SB, 0, none⟩)) rfl (by kernel_rfl) (by kernel_rfl) (by kernel_rfl) (fun _ _ _ h => h) (Or.inl ⟨by rfl, fun w hw => by obtain z0 := hw; go_simp⟩) hHeld ?_
                      simp only [Act.put, List.getElem_toArray, List.getElem_cons_zero, List.getElem_cons_succ, List.setIfInBounds_toArray, List.set_cons_zero, List.set_cons_succ]
                      refine wpAnyH_ready (rs := [19]) (by kernel_rfl) (by simp) ?_
                      refine AllReadyH.cons rfl (fun K hK => ?_) AllReadyH.nil
                      have l0 := r9.cell 0 _ rfl
                      have l1 := r9.froz 0 (by simp)
                      have l2 := r9.lt
                      go_simp
                      refine hK.out _ _ hHeld (fun _ => ?_)
                      clear hK K
                      try simp only [Act.put, List.getElem_toArray, List.getElem_cons_zero, List.getElem_cons_succ, List.setIfInBounds_toArray, List.set_cons_zero, List.set_cons_succ]
                      refine wpAnyH_done (by kernel_rfl) ?_ _
                      rw [List.length_append] at G9
                      go_wp2_with fail
                      go_meet
                      exact ⟨KY, t, q2, yg, ycap, by omega, ht, q20, q21, G9⟩
                    · have hcv := bytes_2 _ _ _ _ (rT.cell 0 _ rfl) (rT.cell 1 _ rfl)
                      obtain ⟨K0, e_K0⟩ : ∃ z, z = strOfNums [48 + tu, 48 + tv] := ⟨_, rfl⟩
                      have hK0 : K0.size = 2 := by rw [e_K0, strOfNums_size]; rfl
                      rw [← e_K0] at hcv
                      clear e_K0
                      obtain ⟨KY, e_KY⟩ : ∃ z, (⟨#[122]⟩ : ByteArray) ++ K0 = z := ⟨_, rfl⟩
                      have hKY : KY.size = 3 := by rw [← e_KY, ByteArray.size_append]; show 1 + K0.size = 3; omega
                      have zk1 : ¬ (9223372036854775807 < 1 + K0.size) := by omega
                      go_simp
                      refine hK.out _ _ hHeld (fun _ => ?_)
                      clear hK K
                      try simp only [Act.put, List.getElem_toArray, List.getElem_cons_zero, List.getElem_cons_succ, List.setIfInBounds_toArray, List.set_cons_zero, List.set_cons_succ]
                      refine wpAnyH_take (i := 12) (v := .string KY) rfl (by kernel_rfl) (by kernel_rfl) (by kernel_rfl) (fun _ _ _ h => h) (Or.inl ⟨by rfl, fun w hw => by obtain z0 := hw; go_simp⟩) hHeld ?_
                      simp only [Act.put, List.getElem_toArray, List.getElem_cons_zero, List.getElem_cons_succ, List.setIfInBounds_toArray, List.set_cons_zero, List.set_cons_succ]
                      refine wpAnyH_take (i := 15) (v := .agg #[.string KY, .string t]) rfl (by kernel_rfl) (by kernel_rfl) (by kernel_rfl) (fun _ _ _ h => h) (Or.inl ⟨by rfl, fun w hw => by obtain z0 := hw; go_simp⟩) hHeld ?_
                      simp only [Act.put, List.getElem_toArray, List.getElem_cons_zero, List.getElem_cons_succ, List.setIfInBounds_toArray, List.set_cons_zero, List.set_cons_succ]
                      refine wpAnyH_ready (rs := [1, 16]) (by kernel_rfl) (by simp) ?_
                      refine AllReadyH.cons rfl (fun K hK => ?_) (AllReadyH.cons rfl (fun K hK => ?_) AllReadyH.nil)
                      · have l0 := F14.x.row.cell 0 _ rfl
                        go_simp
                        refine hK.out _ _ hHeld (fun _ => ?_)
                        clear hK K
                        try simp only [Act.put, List.getElem_toArray, List.getElem_cons_zero, List.getElem_cons_succ, List.setIfInBounds_toArray, List.set_cons_zero, List.set_cons_succ]
                        refine wpAnyH_ready (rs := [16]) (by kernel_rfl) (by simp) ?_
                        refine AllReadyH.cons rfl (fun K hK => ?_) AllReadyH.nil
                        go_simp
                        have F16 := F14.below (below_nw _ (.cells #[.string KY, .string t] 101))
                        have hW0 := F14.lt
                        refine hK.out _ _ hHeld (fun _ => ?_)
                        clear hK K
                        try simp only [Act.put, List.getElem_toArray, List.getElem_cons_zero, List.getElem_cons_succ, List.setIfInBounds_toArray, List.set_cons_zero, List.set_cons_succ]
                        refine wpAnyH_ready (rs := [17]) (by kernel_rfl) (by simp) ?_
                        refine AllReadyH.cons rfl (fun K hK => ?_) AllReadyH.nil
                        refine step_append_lies _ (by rfl) _ _ _ (by rfl) w.heap.size 101 i0 (.agg #[.string ByteArray.empty, .string ByteArray.empty]) 2 32 Try.underlying23 HI.out.1 HI.out.2.1 HI.out.2.2.1 HI.out.2.2.2 rfl (by omega) (.slice ya rs.length yc) rs.length _ (by rfl) F16.x.s.own ⟨w5.heap.size, 0, none⟩ 1 1 [.string KY, .string t] (by rfl) rfl (World.news_of_block (heap_alloc_new w5 _)) (onePrA _ _) (by omega) (by unfold maxLen; omega) (by omega) (by simp; omega) (w5.heap.size + 1) (by simp) ?_
                        intro yg ycap w9 hown9 hgrow9 hat9 hlt9
                        have hown9' : w9.ownsRow w.heap.size 101 2 (.slice (some ⟨yg, 0, none⟩) (rs ++ [(KY, t)]).length ycap) (rs ++ [(KY, t)]).length (prcells (rs ++ [(KY, t)])) := by rw [prcells_snocA, List.length_append]; exact hown9
                        obtain ⟨r9, G9⟩ := F16.push hown9' hgrow9 hat9 (by simp)
                        clear hown9 hgrow9 hat9
                        refine hK.out _ _ hHeld (fun _ => ?_)
                        clear hK K
                        try simp only [Act.put, List.getElem_toArray, List.getElem_cons_zero, List.getElem_cons_succ, List.setIfInBounds_toArray, List.set_cons_zero, List.set_cons_succ]
                        refine wpAnyH_take (i := 18) (v := .pointer (some ⟨SB, 0, none⟩)) rfl (by kernel_rfl) (by kernel_rfl) (by kernel_rfl) (fun _ _ _ h => h) (Or.inl ⟨by rfl, fun w hw => by obtain z0 := hw; go_simp⟩) hHeld ?_
                        simp only [Act.put, List.getElem_toArray, List.getElem_cons_zero, List.getElem_cons_succ, List.setIfInBounds_toArray, List.set_cons_zero, List.set_cons_succ]
                        refine wpAnyH_ready (rs := [19]) (by kernel_rfl) (by simp) ?_
                        refine AllReadyH.cons rfl (fun K hK => ?_) AllReadyH.nil
                        have l0 := r9.cell 0 _ rfl
                        have l1 := r9.froz 0 (by simp)
                        have l2 := r9.lt
                        go_simp
                        refine hK.out _ _ hHeld (fun _ => ?_)
                        clear hK K
                        try simp only [Act.put, List.getElem_toArray, List.getElem_cons_zero, List.getElem_cons_succ, List.setIfInBounds_toArray, List.set_cons_zero, List.set_cons_succ]
                        refine wpAnyH_done (by kernel_rfl) ?_ _
                        rw [List.length_append] at G9
                        go_wp2_with fail
                        go_meet
                        exact ⟨KY, t, q2, yg, ycap, by omega, ht, q20, q21, G9⟩
                      · go_simp
                        have F16 := F14.below (below_nw _ (.cells #[.string KY, .string t] 101))
                        have hW0 := F14.lt
                        refine hK.out _ _ hHeld (fun _ => ?_)
                        clear hK K
                        try simp only [Act.put, List.getElem_toArray, List.getElem_cons_zero, List.getElem_cons_succ, List.setIfInBounds_toArray, List.set_cons_zero, List.set_cons_succ]
                        refine wpAnyH_ready (rs := [1]) (by kernel_rfl) (by simp) ?_
                        refine AllReadyH.cons rfl (fun K hK => ?_) AllReadyH.nil
                        have l0 := F16.x.row.cell 0 _ rfl
                        go_simp
                        refine hK.out _ _ hHeld (fun _ => ?_)
                        clear hK K
                        try simp only [Act.put, List.getElem_toArray, List.getElem_cons_zero, List.getElem_cons_succ, List.setIfInBounds_toArray, List.set_cons_zero, List.set_cons_succ]
                        refine wpAnyH_ready (rs := [17]) (by kernel_rfl) (by simp) ?_
                        refine AllReadyH.cons rfl (fun K hK => ?_) AllReadyH.nil
                        refine step_append_lies _ (by rfl) _ _ _ (by rfl) w.heap.size 101 i0 (.agg #[.string ByteArray.empty, .string ByteArray.empty]) 2 32 Try.underlying23 HI.out.1 HI.out.2.1 HI.out.2.2.1 HI.out.2.2.2 rfl (by omega) (.slice ya rs.length yc) rs.length _ (by rfl) F16.x.s.own ⟨w5.heap.size, 0, none⟩ 1 1 [.string KY, .string t] (by rfl) rfl (World.news_of_block (heap_alloc_new w5 _)) (onePrA _ _) (by omega) (by unfold maxLen; omega) (by omega) (by simp; omega) (w5.heap.size + 1) (by simp) ?_
                        intro yg ycap w9 hown9 hgrow9 hat9 hlt9
                        have hown9' : w9.ownsRow w.heap.size 101 2 (.slice (some ⟨yg, 0, none⟩) (rs ++ [(KY, t)]).length ycap) (rs ++ [(KY, t)]).length (prcells (rs ++ [(KY, t)])) := by rw [prcells_snocA, List.length_append]; exact hown9
                        obtain ⟨r9, G9⟩ := F16.push hown9' hgrow9 hat9 (by simp)
                        clear hown9 hgrow9 hat9
                        refine hK.out _ _ hHeld (fun _ => ?_)
                        clear hK K
                        try simp only [Act.put, List.getElem_toArray, List.getElem_cons_zero, List.getElem_cons_succ, List.setIfInBounds_toArray, List.set_cons_zero, List.set_cons_succ]
                        refine wpAnyH_take (i := 18) (v := .pointer (some ⟨SB, 0, none⟩)) rfl (by kernel_rfl) (by kernel_rfl) (by kernel_rfl) (fun _ _ _ h => h) (Or.inl ⟨by rfl, fun w hw => by obtain z0 := hw; go_simp⟩) hHeld ?_
                        simp only [Act.put, List.getElem_toArray, List.getElem_cons_zero, List.getElem_cons_succ, List.setIfInBounds_toArray, List.set_cons_zero, List.set_cons_succ]
                        refine wpAnyH_ready (rs := [19]) (by kernel_rfl) (by simp) ?_
                        refine AllReadyH.cons rfl (fun K hK => ?_) AllReadyH.nil
                        have l0 := r9.cell 0 _ rfl
                        have l1 := r9.froz 0 (by simp)
                        have l2 := r9.lt
                        go_simp
                        refine hK.out _ _ hHeld (fun _ => ?_)
                        clear hK K
                        try simp only [Act.put, List.getElem_toArray, List.getElem_cons_zero, List.getElem_cons_succ, List.setIfInBounds_toArray, List.set_cons_zero, List.set_cons_succ]
                        refine wpAnyH_done (by kernel_rfl) ?_ _
                        rw [List.length_append] at G9
                        go_wp2_with fail
                        go_meet
                        exact ⟨KY, t, q2, yg, ycap, by omega, ht, q20, q21, G9⟩
                · refine step_call (by rfl) 115 #[.pointer (some ⟨R, 0, none⟩)] (by go_simp) (text_r R a n c q _ D.drew.rd (by omega)) ?_
                  rintro e w5 ⟨⟨t, rfl, ht⟩, ⟨q2, q20, q21, hr5⟩, hg5⟩
                  refine ⟨_, rfl, ?_⟩
                  have F14 := D.drew.pick hr5 hg5
                  clear hr5 hg5
                  refine hK.out _ _ hHeld (fun _ => ?_)
                  clear hK K
                  try simp only [Act.put, List.getElem_toArray, List.getElem_cons_zero, List.getElem_cons_succ, List.setIfInBounds_toArray, List.set_cons_zero, List.set_cons_succ]
                  refine wpAnyH_ready (rs := [1, 10]) (by kernel_rfl) (by simp) ?_
                  refine AllReadyH.cons rfl (fun K hK => ?_) (AllReadyH.cons rfl (fun K hK => ?_) AllReadyH.nil)
                  · have l0 := F14.x.row.cell 0 _ rfl
                    go_simp
                    refine hK.out _ _ hHeld (fun _ => ?_)
                    clear hK K
                    try simp only [Act.put, List.getElem_toArray, List.getElem_cons_zero, List.getElem_cons_succ, List.setIfInBounds_toArray, List.set_cons_zero, List.set_cons_succ]
                    refine wpAnyH_ready (rs := [10]) (by kernel_rfl) (by simp) ?_
                    refine AllReadyH.cons rfl (fun K hK => ?_) AllReadyH.nil
                    go_simp
                    have F10 := (F14.below (below_nw _ (.cells #[.int .u8 (48 + tu), .int .u8 (48 + tv)] 5)))
                    have rT := (row_new w5 #[.int .u8 (48 + tu), .int .u8 (48 + tv)] 5)
                    have yR := F14.x.s.lR
                    have y0 := F14.lt
                    obtain ⟨TB, e_T⟩ : ∃ z, z = w5.heap.size := ⟨_, rfl⟩
                    obtain ⟨wb, e_wb⟩ : ∃ z, z = (w5.alloc (.cells #[.int .u8 (48 + tu), .int .u8 (48 + tv)] 5)) := ⟨_, rfl⟩
                    have hTR : R < TB := by omega
                    rw [← e_wb] at F10
                    rw [← e_wb, ← e_T] at rT
                    rw [← e_wb, ← e_T]
                    clear e_wb e_T
                    refine hK.out _ _ hHeld (fun _ => ?_)
                    clear hK K
                    try simp only [Act.put, List.getElem_toArray, List.getElem_cons_zero, List.getElem_cons_succ, List.setIfInBounds_toArray, List.set_cons_zero, List.set_cons_succ]
                    refine wpAnyH_ready (rs := [11]) (by kernel_rfl) (by simp) ?_
                    refine AllReadyH.cons rfl (fun K hK => ?_) AllReadyH.nil
                    have hcv := bytes_2 _ _ _ _ (rT.cell 0 _ rfl) (rT.cell 1 _ rfl)
                    obtain ⟨K0, e_K0⟩ : ∃ z, z = strOfNums [48 + tu, 48 + tv] := ⟨_, rfl⟩
                    have hK0 : K0.size = 2 := by rw [e_K0, strOfNums_size]; rfl
                    rw [← e_K0] at hcv
                    clear e_K0
                    obtain ⟨KY, e_KY⟩ : ∃ z, (⟨#[122]⟩ : ByteArray) ++ K0 = z := ⟨_, rfl⟩
                    have hKY : KY.size = 3 := by rw [← e_KY, ByteArray.size_append]; show 1 + K0.size = 3; omega
                    have zk1 : ¬ (9223372036854775807 < 1 + K0.size) := by omega
                    go_simp
                    refine hK.out _ _ hHeld (fun _ => ?_)
                    clear hK K
                    try simp only [Act.put, List.getElem_toArray, List.getElem_cons_zero, List.getElem_cons_succ, List.setIfInBounds_toArray, List.set_cons_zero, List.set_cons_succ]
                    refine wpAnyH_take (i := 12) (v := .string KY) rfl (by kernel_rfl) (by kernel_rfl) (by kernel_rfl) (fun _ _ _ h => h) (Or.inl ⟨by rfl, fun w hw => by obtain z0 := hw; go_simp⟩) hHeld ?_
                    simp only [Act.put, List.getElem_toArray, List.getElem_cons_zero, List.getElem_cons_succ, List.setIfInBounds_toArray, List.set_cons_zero, List.set_cons_succ]
                    refine wpAnyH_take (i := 15) (v := .agg #[.string KY, .string t]) rfl (by kernel_rfl) (by kernel_rfl) (by kernel_rfl) (fun _ _ _ h => h) (Or.inl ⟨by rfl, fun w hw => by obtain z0 := hw; go_simp⟩) hHeld ?_
                    simp only [Act.put, List.getElem_toArray, List.getElem_cons_zero, List.getElem_cons_succ, List.setIfInBounds_toArray, List.set_cons_zero, List.set_cons_succ]
                    refine wpAnyH_ready (rs := [16]) (by kernel_rfl) (by simp) ?_
                    refine AllReadyH.cons rfl (fun K hK => ?_) AllReadyH.nil
                    go_simp
                    have F16 := F10.below (below_nw _ (.cells #[.string KY, .string t] 101))
                    have hW0 := F10.lt
                    refine hK.out _ _ hHeld (fun _ => ?_)
                    clear hK K
                    try simp only [Act.put, List.getElem_toArray, List.getElem_cons_zero, List.getElem_cons_succ, List.setIfInBounds_toArray, List.set_cons_zero, List.set_cons_succ]
                    refine wpAnyH_ready (rs := [17]) (by kernel_rfl) (by simp) ?_
                    refine AllReadyH.cons rfl (fun K hK => ?_) AllReadyH.nil
                    refine step_append_lies _ (by rfl) _ _ _ (by rfl) w.heap.size 101 i0 (.agg #[.string ByteArray.empty, .string ByteArray.empty]) 2 32 Try.underlying23 HI.out.1 HI.out.2.1 HI.out.2.2.1 HI.out.2.2.2 rfl (by omega) (.slice ya rs.length yc) rs.length _ (by rfl) F16.x.s.own ⟨wb.heap.size, 0, none⟩ 1 1 [.string KY, .string t] (by rfl) rfl (World.news_of_block (heap_alloc_new wb _)) (onePrA _ _) (by omega) (by unfold maxLen; omega) (by omega) (by simp; omega) (wb.heap.size + 1) (by simp) ?_
                    intro yg ycap w9 hown9 hgrow9 hat9 hlt9
                    have hown9' : w9.ownsRow w.heap.size 101 2 (.slice (some ⟨yg, 0, none⟩) (rs ++ [(KY, t)]).length ycap) (rs ++ [(KY, t)]).length (prcells (rs ++ [(KY, t)])) := by rw [prcells_snocA, List.length_append]; exact hown9
                    obtain ⟨r9, G9⟩ := F16.push hown9' hgrow9 hat9 (by simp)
                    clear hown9 hgrow9 hat9
                    refine hK.out _ _ hHeld (fun _ => ?_)
                    clear hK K
                    try simp only [Act.put, List.getElem_toArray, List.getElem_cons_zero, List.getElem_cons_succ, List.setIfInBounds_toArray, List.set_cons_zero, List.set_cons_succ]
                    refine wpAnyH_take (i := 18) (v := .pointer (some ⟨SB, 0, none⟩)) rfl (by kernel_rfl) (by kernel_rfl) (by kernel_rfl) (fun _ _ _ h => h) (Or.inl ⟨by rfl, fun w hw => by obtain z0 := hw; go_simp⟩) hHeld ?_
                    simp only [Act.put, List.getElem_toArray, List.getElem_cons_zero, List.getElem_cons_succ, List.setIfInBounds_toArray, List.set_cons_zero, List.set_cons_succ]
                    refine wpAnyH_ready (rs := [19]) (by kernel_rfl) (by simp) ?_
                    refine AllReadyH.cons rfl (fun K hK => ?_) AllReadyH.nil
                    have l0 := r9.cell 0 _ rfl
                    have l1 := r9.froz 0 (by simp)
                    have l2 := r9.lt
                    go_simp
                    refine hK.out _ _ hHeld (fun _ => ?_)
                    clear hK K
                    try simp only [Act.put, List.getElem_toArray, List.getElem_cons_zero, List.getElem_cons_succ, List.setIfInBounds_toArray, List.set_cons_zero, List.set_cons_succ]
                    refine wpAnyH_done (by kernel_rfl) ?_ _
                    rw [List.length_append] at G9
                    go_wp2_with fail
                    go_meet
                    exact ⟨KY, t, q2, yg, ycap, by omega, ht, q20, q21, G9⟩
                  · go_simp
                    have F10 := (F14.below (below_nw _ (.cells #[.int .u8 (48 + tu), .int .u8 (48 + tv)] 5)))
                    have rT := (row_new w5 #[.int .u8 (48 + tu), .int .u8 (48 + tv)] 5)
                    have yR := F14.x.s.lR
                    have y0 := F14.lt
                    obtain ⟨TB, e_T⟩ : ∃ z, z = w5.heap.size := ⟨_, rfl⟩
                    obtain ⟨wb, e_wb⟩ : ∃ z, z = (w5.alloc (.cells #[.int .u8 (48 + tu), .int .u8 (48 + tv)] 5)) := ⟨_, rfl⟩
                    have hTR : R < TB := by omega
                    rw [← e_wb] at F10
                    rw [← e_wb, ← e_T] at rT
                    rw [← e_wb, ← e_T]
                    clear e_wb e_T
                    refine hK.out _ _ hHeld (fun _ => ?_)
                    clear hK K
                    try simp only [Act.put, List.getElem_toArray, List.getElem_cons_zero, List.getElem_cons_succ, List.setIfInBounds_toArray, List.set_cons_zero, List.set_cons_succ]
                    refine wpAnyH_ready (rs := [1, 11]) (by kernel_rfl) (by simp) ?_
                    refine AllReadyH.cons rfl (fun K hK => ?_) (AllReadyH.cons rfl (fun K hK => ?_) AllReadyH.nil)
                    · have l0 := F10.x.row.cell 0 _ rfl
                      go_simp
                      refine hK.out _ _ hHeld (fun _ => ?_)
                      clear hK K
                      try simp only [Act.put, List.getElem_toArray, List.getElem_cons_zero, List.getElem_cons_succ, List.setIfInBounds_toArray, List.set_cons_zero, List.set_cons_succ]
                      refine wpAnyH_ready (rs := [11]) (by kernel_rfl) (by simp) ?_
                      refine AllReadyH.cons rfl (fun K hK => ?_) AllReadyH.nil
                      have hcv := bytes_2 _ _ _ _ (rT.cell 0 _ rfl) (rT.cell 1 _ rfl)
                      obtain ⟨K0, e_K0⟩ : ∃ z, z = strOfNums [48 + tu, 48 + tv] := ⟨_, rfl⟩
                      have hK0 : K0.size = 2 := by rw [e_K0, strOfNums_size]; rfl
                      rw [← e_K0] at hcv
                      clear e_K0
                      obtain ⟨KY, e_KY⟩ : ∃ z, (⟨#[122]⟩ : ByteArray) ++ K0 = z := ⟨_, rfl⟩
                      have hKY : KY.size = 3 := by rw [← e_KY, ByteArray.size_append]; show 1 + K0.size = 3; omega
                      have zk1 : ¬ (9223372036854775807 < 1 + K0.size) := by omega
                      go_simp
                      refine hK.out _ _ hHeld (fun _ => ?_)
                      clear hK K
                      try simp only [Act.put, List.getElem_toArray, List.getElem_cons_zero, List.getElem_cons_succ, List.setIfInBounds_toArray, List.set_cons_zero, List.set_cons_succ]
                      refine wpAnyH_take (i := 12) (v := .string KY) rfl (by kernel_rfl) (by kernel_rfl) (by kernel_rfl) (fun _ _ _ h => h) (Or.inl ⟨by rfl, fun w hw => by obtain z0 := hw; go_simp⟩) hHeld ?_
                      simp only [Act.put, List.getElem_toArray, List.getElem_cons_zero, List.getElem_cons_succ, List.setIfInBounds_toArray, List.set_cons_zero, List.set_cons_succ]
                      refine wpAnyH_take (i := 15) (v := .agg #[.string KY, .string t]) rfl (by kernel_rfl) (by kernel_rfl) (by kernel_rfl) (fun _ _ _ h => h) (Or.inl ⟨by rfl, fun w hw => by obtain z0 := hw; go_simp⟩) hHeld ?_
                      simp only [Act.put, List.getElem_toArray, List.getElem_cons_zero, List.getElem_cons_succ, List.setIfInBounds_toArray, List.set_cons_zero, List.set_cons_succ]
                      refine wpAnyH_ready (rs := [16]) (by kernel_rfl) (by simp) ?_
                      refine AllReadyH.cons rfl (fun K hK => ?_) AllReadyH.nil
                      go_simp
                      have F16 := F10.below (below_nw _ (.cells #[.string KY, .string t] 101))
                      have hW0 := F10.lt
                      refine hK.out _ _ hHeld (fun _ => ?_)
                      clear hK K
                      try simp only [Act.put, List.getElem_toArray, List.getElem_cons_zero, List.getElem_cons_succ, List.setIfInBounds_toArray, List.set_cons_zero, List.set_cons_succ]
                      refine wpAnyH_ready (rs := [17]) (by kernel_rfl) (by simp) ?_
                      refine AllReadyH.cons rfl (fun K hK => ?_) AllReadyH.nil
                      refine step_append_lies _ (by rfl) _ _ _ (by rfl) w.heap.size 101 i0 (.agg #[.string ByteArray.empty, .string ByteArray.empty]) 2 32 Try.underlying23 HI.out.1 HI.out.2.1 HI.out.2.2.1 HI.out.2.2.2 rfl (by omega) (.slice ya rs.length yc) rs.length _ (by rfl) F16.x.s.own ⟨wb.heap.size, 0, none⟩ 1 1 [.string KY, .string t] (by rfl) rfl (World.news_of_block (heap_alloc_new wb _)) (onePrA _ _) (by omega) (by unfold maxLen; omega) (by omega) (by simp; omega) (wb.heap.size + 1) (by simp) ?_
                      intro yg ycap w9 hown9 hgrow9 hat9 hlt9
                      have hown9' : w9.ownsRow w.heap.size 101 2 (.slice (some ⟨yg, 0, none⟩) (rs ++ [(KY, t)]).length ycap) (rs ++ [(KY, t)]).length (prcells (rs ++ [(KY, t)])) := by rw [prcells_snocA, List.length_append]; exact hown9
                      obtain ⟨r9, G9⟩ := F16.push hown9' hgrow9 hat9 (by simp)
                      clear hown9 hgrow9 hat9
                      refine hK.out _ _ hHeld (fun _ => ?_)
                      clear hK K
                      try simp only [Act.put, List.getElem_toArray, List.getElem_cons_zero, List.getElem_cons_succ, List.setIfInBounds_toArray, List.set_cons_zero, List.set_cons_succ]
                      refine wpAnyH_take (i := 18) (v := .pointer (some ⟨SB, 0, none⟩)) rfl (by kernel_rfl) (by kernel_rfl) (by kernel_rfl) (fun _ _ _ h => h) (Or.inl ⟨by rfl, fun w hw => by obtain z0 := hw; go_simp⟩) hHeld ?_
                      simp only [Act.put, List.getElem_toArray, List.getElem_cons_zero, List.getElem_cons_succ, List.setIfInBounds_toArray, List.set_cons_zero, List.set_cons_succ]
                      refine wpAnyH_ready (rs := [19]) (by kernel_rfl) (by simp) ?_
                      refine AllReadyH.cons rfl (fun K hK => ?_) AllReadyH.nil
                      have l0 := r9.cell 0 _ rfl
                      have l1 := r9.froz 0 (by simp)
                      have l2 := r9.lt
                      go_simp
                      refine hK.out _ _ hHeld (fun _ => ?_)
                      clear hK K
                      try simp only [Act.put, List.getElem_toArray, List.getElem_cons_zero, List.getElem_cons_succ, List.setIfInBounds_toArray, List.set_cons_zero, List.set_cons_succ]
                      refine wpAnyH_done (by kernel_rfl) ?_ _
                      rw [List.length_append] at G9
                      go_wp2_with fail
                      go_meet
                      exact ⟨KY, t, q2, yg, ycap, by omega, ht, q20, q21, G9⟩
                    · have hcv := bytes_2 _ _ _ _ (rT.cell 0 _ rfl) (rT.cell 1 _ rfl)
                      obtain ⟨K0, e_K0⟩ : ∃ z, z = strOfNums [48 + tu, 48 + tv] := ⟨_, rfl⟩
                      have hK0 : K0.size = 2 := by rw [e_K0, strOfNums_size]; rfl
                      rw [← e_K0] at hcv
                      clear e_K0
                      obtain ⟨KY, e_KY⟩ : ∃ z, (⟨#[122]⟩ : ByteArray) ++ K0 = z := ⟨_, rfl⟩
                      have hKY : KY.size = 3 := by rw [← e_KY, ByteArray.size_append]; show 1 + K0.size = 3; omega
                      have zk1 : ¬ (9223372036854775807 < 1 + K0.size) := by omega
                      go_simp
                      refine hK.out _ _ hHeld (fun _ => ?_)
                      clear hK K
                      try simp only [Act.put, List.getElem_toArray, List.getElem_cons_zero, List.getElem_cons_succ, List.setIfInBounds_toArray, List.set_cons_zero, List.set_cons_succ]
                      refine wpAnyH_take (i := 12) (v := .string KY) rfl (by kernel_rfl) (by kernel_rfl) (by kernel_rfl) (fun _ _ _ h => h) (Or.inl ⟨by rfl, fun w hw => by obtain z0 := hw; go_simp⟩) hHeld ?_
                      simp only [Act.put, List.getElem_toArray, List.getElem_cons_zero, List.getElem_cons_succ, List.setIfInBounds_toArray, List.set_cons_zero, List.set_cons_succ]
                      refine wpAnyH_take (i := 15) (v := .agg #[.string KY, .string t]) rfl (by kernel_rfl) (by kernel_rfl) (by kernel_rfl) (fun _ _ _ h => h) (Or.inl ⟨by rfl, fun w hw => by obtain z0 := hw; go_simp⟩) hHeld ?_
                      simp only [Act.put, List.getElem_toArray, List.getElem_cons_zero, List.getElem_cons_succ, List.setIfInBounds_toArray, List.set_cons_zero, List.set_cons_succ]
                      refine wpAnyH_ready (rs := [1, 16]) (by kernel_rfl) (by simp) ?_
                      refine AllReadyH.cons rfl (fun K hK => ?_) (AllReadyH.cons rfl (fun K hK => ?_) AllReadyH.nil)
                      · have l0 := F10.x.row.cell 0 _ rfl
                        go_simp
                        refine hK.out _ _ hHeld (fun _ => ?_)
                        clear hK K
                        try simp only [Act.put, List.getElem_toArray, List.getElem_cons_zero, List.getElem_cons_succ, List.setIfInBounds_toArray, List.set_cons_zero, List.set_cons_succ]
                        refine wpAnyH_ready (rs := [16]) (by kernel_rfl) (by simp) ?_
                        refine AllReadyH.cons rfl (fun K hK => ?_) AllReadyH.nil
                        go_simp
                        have F16 := F10.below (below_nw _ (.cells #[.string KY, .string t] 101))
                        have hW0 := F10.lt
                        refine hK.out _ _ hHeld (fun _ => ?_)
                        clear hK K
                        try simp only [Act.put, List.getElem_toArray, List.getElem_cons_zero, List.getElem_cons_succ, List.setIfInBounds_toArray, List.set_cons_zero, List.set_cons_succ]
                        refine wpAnyH_ready (rs := [17]) (by kernel_rfl) (by simp) ?_
                        refine AllReadyH.cons rfl (fun K hK => ?_) AllReadyH.nil
                        refine step_append_lies _ (by rfl) _ _ _ (by rfl) w.heap.size 101 i0 (.agg #[.string ByteArray.empty, .string ByteArray.empty]) 2 32 Try.underlying23 HI.out.1 HI.out.2.1 HI.out.2.2.1 HI.out.2.2.2 rfl (by omega) (.slice ya rs.length yc) rs.length _ (by rfl) F16.x.s.own ⟨wb.heap.size, 0, none⟩ 1 1 [.string KY, .string t] (by rfl) rfl (World.news_of_block (heap_alloc_new wb _)) (onePrA _ _) (by omega) (by unfold maxLen; omega) (by omega) (by simp; omega) (wb.heap.size + 1) (by simp) ?_
                        intro yg ycap w9 hown9 hgrow9 hat9 hlt9
                        have hown9' : w9.ownsRow w.heap.size 101 2 (.slice (some ⟨yg, 0, none⟩) (rs ++ [(KY, t)]).length ycap) (rs ++ [(KY, t)]).length (prcells (rs ++ [(KY, t)])) := by rw [prcells_snocA, List.length_append]; exact hown9
                        obtain ⟨r9, G9⟩ := F16.push hown9' hgrow9 hat9 (by simp)
                        clear hown9 hgrow9 hat9
                        refine hK.out _ _ hHeld (fun _ => ?_)
                        clear hK K
                        try simp only [Act.put, List.getElem_toArray, List.getElem_cons_zero, List.getElem_cons_succ, List.setIfInBounds_toArray, List.set_cons_zero, List.set_cons_succ]
                        refine wpAnyH_take (i := 18) (v := .pointer (some ⟨SB, 0, none⟩)) rfl (by kernel_rfl) (by kernel_rfl) (by kernel_rfl) (fun _ _ _ h => h) (Or.inl ⟨by rfl, fun w hw => by obtain z0 := hw; go_simp⟩) hHeld ?_
                        simp only [Act.put, List.getElem_toArray, List.getElem_cons_zero, List.getElem_cons_succ, List.setIfInBounds_toArray, List.set_cons_zero, List.set_cons_succ]
                        refine wpAnyH_ready (rs := [19]) (by kernel_rfl) (by simp) ?_
                        refine AllReadyH.cons rfl (fun K hK => ?_) AllReadyH.nil
                        have l0 := r9.cell 0 _ rfl
                        have l1 := r9.froz 0 (by simp)
                        have l2 := r9.lt
                        go_simp
                        refine hK.out _ _ hHeld (fun _ => ?_)
                        clear hK K
                        try simp only [Act.put, List.getElem_toArray, List.getElem_cons_zero, List.getElem_cons_succ, List.setIfInBounds_toArray, List.set_cons_zero, List.set_cons_succ]
                        refine wpAnyH_done (by kernel_rfl) ?_ _
                        rw [List.length_append] at G9
                        go_wp2_with fail
                        go_meet
                        exact ⟨KY, t, q2, yg, ycap, by omega, ht, q20, q21, G9⟩
                      · go_simp
                        have F16 := F10.below (below_nw _ (.cells #[.string KY, .string t] 101))
                        have hW0 := F10.lt
                        refine hK.out _ _ hHeld (fun _ => ?_)
                        clear hK K
                        try simp only [Act.put, List.getElem_toArray, List.getElem_cons_zero, List.getElem_cons_succ, List.setIfInBounds_toArray, List.set_cons_zero, List.set_cons_succ]
                        refine wpAnyH_ready (rs := [1]) (by kernel_rfl) (by simp) ?_
                        refine AllReadyH.cons rfl (fun K hK => ?_) AllReadyH.nil
                        have l0 := F16.x.row.cell 0 _ rfl
                        go_simp
                        refine hK.out _ _ hHeld (fun _ => ?_)
                        clear hK K
                        try simp only [Act.put, List.getElem_toArray, List.getElem_cons_zero, List.getElem_cons_succ, List.setIfInBounds_toArray, List.set_cons_zero, List.set_cons_succ]
                        refine wpAnyH_ready (rs := [17]) (by kernel_rfl) (by simp) ?_
                        refine AllReadyH.cons rfl (fun K hK => ?_) AllReadyH.nil
                        refine step_append_lies _ (by rfl) _ _ _ (by rfl) w.heap.size 101 i0 (.agg #[.string ByteArray.empty, .string ByteArray.empty]) 2 32 Try.underlying23 HI.out.1 HI.out.2.1 HI.out.2.2.1 HI.out.2.2.2 rfl (by omega) (.slice ya rs.length yc) rs.length _ (by rfl) F16.x.s.own ⟨wb.heap.size, 0, none⟩ 1 1 [.string KY, .string t] (by rfl) rfl (World.news_of_block (heap_alloc_new wb _)) (onePrA _ _) (by omega) (by unfold maxLen; omega) (by omega) (by simp; omega) (wb.heap.size + 1) (by simp) ?_
                        intro yg ycap w9 hown9 hgrow9 hat9 hlt9
                        have hown9' : w9.ownsRow w.heap.size 101 2 (.slice (some ⟨yg, 0, none⟩) (rs ++ [(KY, t)]).length ycap) (rs ++ [(KY, t)]).length (prcells (rs ++ [(KY, t)])) := by rw [prcells_snocA, List.length_append]; exact hown9
                        obtain ⟨r9, G9⟩ := F16.push hown9' hgrow9 hat9 (by simp)
                        clear hown9 hgrow9 hat9
                        refine hK.out _ _ hHeld (fun _ => ?_)
                        clear hK K
                        try simp only [Act.put, List.getElem_toArray, List.getElem_cons_zero, List.getElem_cons_succ, List.setIfInBounds_toArray, List.set_cons_zero, List.set_cons_succ]
                        refine wpAnyH_take (i := 18) (v := .pointer (some ⟨SB, 0, none⟩)) rfl (by kernel_rfl) (by kernel_rfl) (by kernel_rfl) (fun _ _ _ h => h) (Or.inl ⟨by rfl, fun w hw => by obtain z0 := hw; go_simp⟩) hHeld ?_
                        simp only [Act.put, List.getElem_toArray, List.getElem_cons_zero, List.getElem_cons_succ, List.setIfInBounds_toArray, List.set_cons_zero, List.set_cons_succ]
                        refine wpAnyH_ready (rs := [19]) (by kernel_rfl) (by simp) ?_
                        refine AllReadyH.cons rfl (fun K hK => ?_) AllReadyH.nil
                        have l0 := r9.cell 0 _ rfl
                        have l1 := r9.froz 0 (by simp)
                        have l2 := r9.lt
                        go_simp
                        refine hK.out _ _ hHeld (fun _ => ?_)
                        clear hK K
                        try simp only [Act.put, List.getElem_toArray, List.getElem_cons_zero, List.getElem_cons_succ, List.setIfInBounds_toArray, List.set_cons_zero, List.set_cons_succ]
                        refine wpAnyH_done (by kernel_rfl) ?_ _
                        rw [List.length_append] at G9
                        go_wp2_with fail
                        go_meet
                        exact ⟨KY, t, q2, yg, ycap, by omega, ht, q20, q21, G9⟩
              case rest =>
              obtain ⟨KY, t, q2, yg, ycap, hKY, ht, q20, q21, G⟩ := hcut
              clear D
              have hl1 : rs.length + [(KY, t)].length = rs.length + 1 := rfl
              rw [hl1] at G
              have hlr : (rs ++ [(KY, t)]).length = rs.length + 1 := by simp
              have c0 := G.x.row.cell 0 _ rfl
              have c1 := G.x.row.froz 0 (by simp)
              have c2 := G.x.row.lt
              have hcell := prcells_at (rs ++ [(KY, t)]) rs.length (by omega)
              have hgd : (rs ++ [(KY, t)]).getD rs.length (ByteArray.empty, ByteArray.empty) = (KY, t) := by simp [List.getD]
              rw [hgd] at hcell
              have hown := G.x.s.own
              rw [hlr] at hown
              have e1 := hown.cellAt (rs.length * 2 + 1) (by omega)
              rw [hcell.2] at e1
              have e2 := hown.frozenAt (rs.length * 2 + 1)
              have e3 := (hown.lt yg rfl).2
              have hwl : IntKind.i64.wrap (((rs.length + 1 : Nat) : Int) - 1) = (rs.length : Int) := by rw [wrap_i64_id _ (by omega) (by omega)]; omega
              have hwl2 : ((rs.length + 1 : Nat) : Int) - 1 = (rs.length : Int) := by omega
              have hwl3 : (rs.length : Int) + 1 - 1 = (rs.length : Int) := by omega
              have hwl5 : IntKind.i64.wrap ((rs.length : Int) + 1 - 1) = (rs.length : Int) := by rw [wrap_i64_id _ (by omega) (by omega)]; omega
              have hwl4 : (rs.length : Int) < ((rs.length + 1 : Nat) : Int) := by omega
              have hwl6 : (rs.length : Int) < (rs.length : Int) + 1 := by omega
              clear hown hcell hgd
              by_cases ht1 : t.size ≤ 100
              · have ht2 : ¬ (100 < (t.size : Int)) := by omega
                have HG := hid G
                clear G
                go_wp2
                exact ⟨⟨i + 1, q2, rs ++ [(KY, t)], _, _, rfl, by simp, by simp; omega, by simp; omega, by omega, by omega, hps.snoc _ hKY ht, HG.out⟩, by simp [intOf]; omega⟩
              · have ht2 : 100 < (t.size : Int) := by omega
                have hset : (prcells (rs ++ [(KY, t)])).set (rs.length * 2 + 1) (.string ⟨#[]⟩) = prcells (rs ++ [(KY, ⟨#[]⟩)]) := by
                  rw [prset_1 (rs ++ [(KY, t)]) rs.length (by omega)]
                  congr 1
                  simp [List.getD]
                have G' : AnS w wc R a n c q2 RB SB (.slice (some ⟨yg, 0, none⟩) (rs ++ [(KY, t)]).length ycap) (rs ++ [(KY, t)]) := by rw [hlr]; exact G
                have G2 := G'.stored (by omega) (rs.length * 2 + 1) (.string ⟨#[]⟩) (rs ++ [(KY, ⟨#[]⟩)]) (by simp) hset
                rw [List.length_append] at G2
                have HG := hid G2
                clear G' G2 G hset
                go_wp2
                exact ⟨⟨i + 1, q2, rs ++ [(KY, ⟨#[]⟩)], _, _, rfl, by simp, by simp; omega, by simp; omega, by omega, by omega, hps.snoc _ hKY (Nat.zero_le _), HG.out⟩, by simp [intOf]; omega⟩
            · go_wp2_with fail
              go_meet
              exact ⟨q, rs, _, by omega, by omega, hrl, hps, D⟩
        · have hvb : (v == 0) = false := by simp [hv]
          go_wp2_with fail
          go_meet
          exact ⟨q + 1, rs, _, by omega, by omega, hrl, hps, D1⟩
      case rest =>
      clear D1 D hps hrl hok q0 q1 v0 v1
      obtain ⟨q3, rs3, y3, q0, q1, hrl, hps, D⟩ := hcut
      obtain ⟨ya, yc, rfl, _⟩ := owns_prs D.x.s.own
      go_wp2_with fail
      refine (pick_r R a n c (q3) 8 _ D.rd (by omega)).mono ?_
      rintro e w4 ⟨⟨v, rfl, v0, v1⟩, hr4, hg4⟩
      have D4 := D.pick hr4 hg4
      clear hr4 hg4
      clear D
      by_cases hv : v = 0
      · subst hv
        by_cases hl0 : rs3.length = 0
        · have hl1 : ¬ (0 < (rs3.length : Int)) := by omega
          have hrl9 : rs3.length ≤ 102 := by omega
          clear hl0
          have fc0 := D4.x.row.cell 0 _ rfl
          have fc1 := D4.x.row.froz 0 (by simp)
          have fc2 := D4.x.row.lt
          have fb0 := D4.rb.cell 0 _ rfl
          have fb1 := D4.rb.froz 0 (by simp)
          have fb2 := D4.rb.lt
          have fbs := D4.bs
          have fro := D4.ro
          have HFD := hid D4
          go_wp2
          refine bodyPost_ret (v := .agg #[(.slice ya rs3.length yc)]) (by simp [results, Try.results51, go_sem, fb0]) rfl ?_
          first | exact ⟨⟨_, rs3, rfl, HFD.out.fin.1, by omega, hps⟩, ⟨q3 + 1, by omega, by omega, HFD.out.fin.2.1⟩, HFD.out.fin.2.2⟩ | exact ⟨⟨_, rfl, rs3, HFD.out.fin.1, by omega, hps⟩, ⟨q3 + 1, by omega, by omega, HFD.out.fin.2.1⟩, HFD.out.fin.2.2⟩
        · have hl1 : 0 < (rs3.length : Int) := by omega
          obtain ⟨g, cap, e_y, _, _⟩ := D4.x.s.own.form (by omega)
          injection e_y with e_y1 _ e_y2
          subst e_y1 e_y2
          have c0 := D4.x.row.cell 0 _ rfl
          have c1 := D4.x.row.froz 0 (by simp)
          have c2 := D4.x.row.lt
          go_wp2_with fail
          refine (pick_r R a n c (q3 + 1) (rs3.length : Int) _ D4.rd (by omega)).mono ?_
          rintro e w5 ⟨⟨k', rfl, k0, k1⟩, hr5, hg5⟩
          have D5 := D4.pick hr5 hg5
          clear hr5 hg5 D4 c0 c1 c2
          obtain ⟨k, rfl⟩ : ∃ x : Nat, k' = (x : Int) := ⟨k'.toNat, by omega⟩
          have hk : k < rs3.length := by omega
          have hki : (k : Int) < (rs3.length : Int) := by omega
          clear k0 k1
          go_wp2_with fail
          refine (pick_r R a n c (q3 + 1 + 1) 4 _ D5.rd (by omega)).mono ?_
          rintro e w6 ⟨⟨kk, rfl, kk0, kk1⟩, hr6, hg6⟩
          have D6 := D5.pick hr6 hg6
          clear hr6 hg6
          clear D5
          have hcel := prcells_at rs3 k hk
          have hkk : kk = 0 ∨ kk = 1 ∨ kk = 2 ∨ kk = 3 := by omega
          clear kk0 kk1
          rcases hkk with rfl | rfl | rfl | rfl
          · go_upto_region 27 with fail
            refine wp_region_held_drew (S := fun w' => w'.cell? ⟨SB, 0, none⟩ = some (.slice (some ⟨g, 0, none⟩) rs3.length yc)) (by kernel_rfl) (D6.drew.x.row.cell 0 _ rfl) (fun hHeld => ?_)
            refine wpAnyH_take (i := 0) (v := .pointer (some ⟨SB, 0, none⟩)) rfl (by kernel_rfl) (by kernel_rfl) (by kernel_rfl) (fun _ _ _ h => h) (Or.inl ⟨by rfl, fun w hw => by obtain z0 := hw; go_simp⟩) hHeld ?_
            simp only [Act.put, List.getElem_toArray, List.getElem_cons_zero, List.getElem_cons_succ, List.setIfInBounds_toArray, List.set_cons_zero, List.set_cons_succ]
            refine wpAnyH_take (i := 1) (v := .slice (some ⟨g, 0, none⟩) rs3.length yc) rfl (by kernel_rfl) (by kernel_rfl) (by kernel_rfl) (fun _ _ _ h => h) (Or.inl ⟨by rfl, fun w hw => by obtain z0 := hw; go_simp⟩) hHeld ?_
            simp only [Act.put, List.getElem_toArray, List.getElem_cons_zero, List.getElem_cons_succ, List.setIfInBounds_toArray, List.set_cons_zero, List.set_cons_succ]
            refine wpAnyH_take (i := 2) (v := .int .i64 (k : Int)) rfl (by kernel_rfl) (by kernel_rfl) (by kernel_rfl) (fun _ _ _ h => h) (Or.inl ⟨by rfl, fun w hw => by obtain z0 := hw; go_simp⟩) hHeld ?_
            simp only [Act.put, List.getElem_toArray, List.getElem_cons_zero, List.getElem_cons_succ, List.setIfInBounds_toArray, List.set_cons_zero, List.set_cons_succ]
            refine wpAnyH_take (i := 3) (v := .pointer (some ⟨R, 0, none⟩)) rfl (by kernel_rfl) (by kernel_rfl) (by kernel_rfl) (fun _ _ _ h => h) (Or.inl ⟨by rfl, fun w hw => by obtain z0 := hw; go_simp⟩) hHeld ?_
            simp only [Act.put, List.getElem_toArray, List.getElem_cons_zero, List.getElem_cons_succ, List.setIfInBounds_toArray, List.set_cons_zero, List.set_cons_succ]
            refine wpAnyH_take (i := 8) (v := .pointer (some ⟨R, 0, none⟩)) rfl (by kernel_rfl) (by kernel_rfl) (by kernel_rfl) (fun _ _ _ h => h) (Or.inl ⟨by rfl, fun w hw => by obtain z0 := hw; go_simp⟩) hHeld ?_
            simp only [Act.put, List.getElem_toArray, List.getElem_cons_zero, List.getElem_cons_succ, List.setIfInBounds_toArray, List.set_cons_zero, List.set_cons_succ]
            refine wpAnyH_ready (rs := [4]) (by kernel_rfl) (by simp) ?_
            refine AllReadyH.cons rfl (fun K hK => ?_) AllReadyH.nil
            refine step_call (by rfl) 53 #[.pointer (some ⟨R, 0, none⟩), .int .i64 2] (by go_simp) (pick_r R a n c (q3 + 1 + 1 + 1) 2 _ D6.drew.rd (by omega)) ?_
            rintro e w7 ⟨⟨z, rfl, z0, z1⟩, hr7, hg7⟩
            refine ⟨_, rfl, ?_⟩
            have D7 := D6.drew.pick hr7 hg7
            clear hr7 hg7
            have hzw : IntKind.i64.wrap (20 + z) = 20 + z := wrap_i64_id _ (by omega) (by omega)
            refine hK.out _ _ (D7.x.row.cell 0 _ rfl) (fun hHd1 => ?_)
            clear hK K
            try simp only [Act.put, List.getElem_toArray, List.getElem_cons_zero, List.getElem_cons_succ, List.setIfInBounds_toArray, List.set_cons_zero, List.set_cons_succ]
            refine wpAnyH_take (i := 5) (v := .int .i64 (20 + z)) rfl (by kernel_rfl) (by kernel_rfl) (by kernel_rfl) (fun _ _ _ h => h) (Or.inl ⟨by rfl, fun w hw => by obtain z0 := hw; go_simp⟩) hHd1 ?_
            simp only [Act.put, List.getElem_toArray, List.getElem_cons_zero, List.getElem_cons_succ, List.setIfInBounds_toArray, List.set_cons_zero, List.set_cons_succ]
            refine wpAnyH_ready (rs := [6]) (by kernel_rfl) (by simp) ?_
            refine AllReadyH.cons rfl (fun K hK => ?_) AllReadyH.nil
            refine step_call (by rfl) 116 #[.string ⟨#[122]⟩, .int .i64 (20 + z)] (by go_simp) (many_r _ (20 + z) _ (by decide) (by omega)) ?_
            rintro e w8 ⟨⟨t, rfl, ht⟩, hb8⟩
            refine ⟨_, rfl, ?_⟩
            have D8 := D7.below hb8
            clear hb8
            refine hK.out _ _ (D8.x.row.cell 0 _ rfl) (fun hHd2 => ?_)
            clear hK K
            try simp only [Act.put, List.getElem_toArray, List.getElem_cons_zero, List.getElem_cons_succ, List.setIfInBounds_toArray, List.set_cons_zero, List.set_cons_succ]
            refine wpAnyH_ready (rs := [7, 9]) (by kernel_rfl) (by simp) ?_
            refine AllReadyH.cons rfl (fun K hK => ?_) (AllReadyH.cons rfl (fun K hK => ?_) AllReadyH.nil)
            · go_simp
              have D9 := D8.below (below_nw _ (.cells #[.string ⟨#[]⟩, .string ⟨#[97]⟩, .string t] 9))
              have rT := row_new w8 #[.string ⟨#[]⟩, .string ⟨#[97]⟩, .string t] 9
              have yR := D8.x.s.lR
              have y0 := D8.lt
              obtain ⟨TB, e_T⟩ : ∃ z, z = w8.heap.size := ⟨_, rfl⟩
              obtain ⟨w9, e_w9⟩ : ∃ z, z = w8.alloc (.cells #[.string ⟨#[]⟩, .string ⟨#[97]⟩, .string t] 9) := ⟨_, rfl⟩
              have hTR : R < TB := by omega
              rw [← e_w9] at D9
              rw [← e_w9, ← e_T] at rT
              rw [← e_w9, ← e_T]
              clear e_w9 e_T
              refine hK.out _ _ (D9.x.row.cell 0 _ rfl) (fun hHd3 => ?_)
              clear hK K
              try simp only [Act.put, List.getElem_toArray, List.getElem_cons_zero, List.getElem_cons_succ, List.setIfInBounds_toArray, List.set_cons_zero, List.set_cons_succ]
              refine wpAnyH_ready (rs := [9]) (by kernel_rfl) (by simp) ?_
              refine AllReadyH.cons rfl (fun K hK => ?_) AllReadyH.nil
              refine step_call (by rfl) 53 #[.pointer (some ⟨R, 0, none⟩), .int .i64 3] (by go_simp) (pick_r R a n c (q3 + 1 + 1 + 1 + 1) 3 _ D9.rd (by omega)) ?_
              rintro e w10 ⟨⟨x', rfl, x0, x1⟩, hr10, hg10⟩
              refine ⟨_, rfl, ?_⟩
              have D10 := D9.pick hr10 hg10
              obtain ⟨x, rfl⟩ : ∃ k : Nat, x' = (k : Int) := ⟨x'.toNat, by omega⟩
              have hx3 : x < 3 := by omega
              have hx3i : (x : Int) < 3 := by omega
              clear x0 x1
              have rT := rT.grown hg10 (fun e => by injection e with e; omega)
              have DL := D10
              clear hr10 hg10
              refine hK.out _ _ (D10.x.row.cell 0 _ rfl) (fun hHd4 => ?_)
              clear hK K
              try simp only [Act.put, List.getElem_toArray, List.getElem_cons_zero, List.getElem_cons_succ, List.setIfInBounds_toArray, List.set_cons_zero, List.set_cons_succ]
              refine wpAnyH_take (i := 10) (v := .pointer (some ⟨TB, x, none⟩)) rfl (by kernel_rfl) (by kernel_rfl) (by kernel_rfl) (fun _ _ _ h => h) (Or.inl ⟨by rfl, fun w hw => by obtain z0 := hw; go_simp⟩) hHd4 ?_
              simp only [Act.put, List.getElem_toArray, List.getElem_cons_zero, List.getElem_cons_succ, List.setIfInBounds_toArray, List.set_cons_zero, List.set_cons_succ]
              refine wpAnyH_ready (rs := [11]) (by kernel_rfl) (by simp) ?_
              refine AllReadyH.cons rfl (fun K hK => ?_) AllReadyH.nil
              obtain ⟨tx, hcx, htx⟩ : ∃ tx : ByteArray, w10.cell? ⟨TB, x, none⟩ = some (.string tx) ∧ tx.size ≤ 64000 := by
                have hx : x = 0 ∨ x = 1 ∨ x = 2 := by omega
                rcases hx with rfl | rfl | rfl
                · exact ⟨_, rT.cell 0 _ rfl, by decide⟩
                · exact ⟨_, rT.cell 1 _ rfl, by decide⟩
                · exact ⟨_, rT.cell 2 _ rfl, ht⟩
              go_simp
              refine hK.out _ _ hHd4 (fun _ => ?_)
              clear hK K
              try simp only [Act.put, List.getElem_toArray, List.getElem_cons_zero, List.getElem_cons_succ, List.setIfInBounds_toArray, List.set_cons_zero, List.set_cons_succ]
              refine wpAnyH_take (i := 12) (v := .pointer (some ⟨g, k * 2, none⟩)) rfl (by kernel_rfl) (by kernel_rfl) (by kernel_rfl) (fun _ _ _ h => h) (Or.inl ⟨by rfl, fun w hw => by obtain z0 := hw; go_simp⟩) hHd4 ?_
              simp only [Act.put, List.getElem_toArray, List.getElem_cons_zero, List.getElem_cons_succ, List.setIfInBounds_toArray, List.set_cons_zero, List.set_cons_succ]
              refine wpAnyH_take (i := 13) (v := .pointer (some ⟨g, k * 2, none⟩)) rfl (by kernel_rfl) (by kernel_rfl) (by kernel_rfl) (fun _ _ _ h => h) (Or.inl ⟨by rfl, fun w hw => by obtain z0 := hw; go_simp⟩) hHd4 ?_
              simp only [Act.put, List.getElem_toArray, List.getElem_cons_zero, List.getElem_cons_succ, List.setIfInBounds_toArray, List.set_cons_zero, List.set_cons_succ]
              refine wpAnyH_ready (rs := [14]) (by kernel_rfl) (by simp) ?_
              refine AllReadyH.cons rfl (fun K hK => ?_) AllReadyH.nil
              have u0 := DL.x.s.own.cellAt (k * 2) (by omega)
              rw [hcel.1] at u0
              have u1 := DL.x.s.own.frozenAt (k * 2)
              have u2 := (DL.x.s.own.lt g rfl).2
              have DM := DL.stored (by omega) (k * 2) (.string tx) _ (by simp) (prset_0 rs3 k hk tx)
              go_simp
              refine hK.out _ _ (by have h9 := DM.x.row.cell 0 _ rfl; rw [List.length_set] at h9; exact h9) (fun hHd6 => ?_)
              clear hK K
              try simp only [Act.put, List.getElem_toArray, List.getElem_cons_zero, List.getElem_cons_succ, List.setIfInBounds_toArray, List.set_cons_zero, List.set_cons_succ]
              refine wpAnyH_done (by kernel_rfl) ?_ _
              have hps2 := hps.set k (tx, (rs3.getD k (ByteArray.empty, ByteArray.empty)).2) htx (hps.get k).2
              have hl2 : (rs3.set k (tx, (rs3.getD k (ByteArray.empty, ByteArray.empty)).2)).length ≤ 102 := by simp; omega
              obtain ⟨rs4, e_r4⟩ : ∃ z, z = rs3.set k (tx, (rs3.getD k (ByteArray.empty, ByteArray.empty)).2) := ⟨_, rfl⟩
              have hl4 : rs4.length = rs3.length := by rw [e_r4, List.length_set]
              rw [← e_r4] at DM hps2 hl2
              rw [hl4] at DM
              have HL4 := hid hl4
              clear e_r4 u0 u1 u2 hl4
              have fc0 := DM.x.row.cell 0 _ rfl
              have fc1 := DM.x.row.froz 0 (by simp)
              have fc2 := DM.x.row.lt
              have fb0 := DM.rb.cell 0 _ rfl
              have fb1 := DM.rb.froz 0 (by simp)
              have fb2 := DM.rb.lt
              have fbs := DM.bs
              have fro := DM.ro
              have HFD := hid DM
              go_wp2
              refine bodyPost_ret (v := .agg #[(.slice (some ⟨g, 0, none⟩) rs3.length yc)]) (by simp [results, Try.results51, go_sem, fb0]) rfl ?_
              first | exact ⟨⟨_, rs4, rfl, HFD.out.fin.1, hl2, hps2⟩, ⟨q3 + 1 + 1 + 1 + 1 + 1, by omega, by omega, HFD.out.fin.2.1⟩, HFD.out.fin.2.2⟩ | exact ⟨⟨_, rfl, rs4, HFD.out.fin.1, hl2, hps2⟩, ⟨q3 + 1 + 1 + 1 + 1 + 1, by omega, by omega, HFD.out.fin.2.1⟩, HFD.out.fin.2.2⟩
            · refine step_call (by rfl) 53 #[.pointer (some ⟨R, 0, none⟩), .int .i64 3] (by go_simp) (pick_r R a n c (q3 + 1 + 1 + 1 + 1) 3 _ D8.rd (by omega)) ?_
              rintro e w10 ⟨⟨x', rfl, x0, x1⟩, hr10, hg10⟩
              refine ⟨_, rfl, ?_⟩
              have D10 := D8.pick hr10 hg10
              obtain ⟨x, rfl⟩ : ∃ k : Nat, x' = (k : Int) := ⟨x'.toNat, by omega⟩
              have hx3 : x < 3 := by omega
              have hx3i : (x : Int) < 3 := by omega
              clear x0 x1
              clear hr10 hg10
              refine hK.out _ _ (D10.x.row.cell 0 _ rfl) (fun hHd7 => ?_)
              clear hK K
              try simp only [Act.put, List.getElem_toArray, List.getElem_cons_zero, List.getElem_cons_succ, List.setIfInBounds_toArray, List.set_cons_zero, List.set_cons_succ]
              refine wpAnyH_ready (rs := [7]) (by kernel_rfl) (by simp) ?_
              refine AllReadyH.cons rfl (fun K hK => ?_) AllReadyH.nil
              go_simp
              have D9 := D10.below (below_nw _ (.cells #[.string ⟨#[]⟩, .string ⟨#[97]⟩, .string t] 9))
              have rT := row_new w10 #[.string ⟨#[]⟩, .string ⟨#[97]⟩, .string t] 9
              have yR := D10.x.s.lR
              have y0 := D10.lt
              obtain ⟨TB, e_T⟩ : ∃ z, z = w10.heap.size := ⟨_, rfl⟩
              obtain ⟨w9, e_w9⟩ : ∃ z, z = w10.alloc (.cells #[.string ⟨#[]⟩, .string ⟨#[97]⟩, .string t] 9) := ⟨_, rfl⟩
              have hTR : R < TB := by omega
              rw [← e_w9] at D9
              rw [← e_w9, ← e_T] at rT
              rw [← e_w9, ← e_T]
              clear e_w9 e_T
              have DL := D9
              refine hK.out _ _ (D9.x.row.cell 0 _ rfl) (fun hHd8 => ?_)
              clear hK K
              try simp only [Act.put, List.getElem_toArray, List.getElem_cons_zero, List.getElem_cons_succ, List.setIfInBounds_toArray, List.set_cons_zero, List.set_cons_succ]
              refine wpAnyH_take (i := 10) (v := .pointer (some ⟨TB, x, none⟩)) rfl (by kernel_rfl) (by kernel_rfl) (by kernel_rfl) (fun _ _ _ h => h) (Or.inl ⟨by rfl, fun w hw => by obtain z0 := hw; go_simp⟩) hHd8 ?_
              simp only [Act.put, List.getElem_toArray, List.getElem_cons_zero, List.getElem_cons_succ, List.setIfInBounds_toArray, List.set_cons_zero, List.set_cons_succ]
              refine wpAnyH_ready (rs := [11]) (by kernel_rfl) (by simp) ?_
              refine AllReadyH.cons rfl (fun K hK => ?_) AllReadyH.nil
              obtain ⟨tx, hcx, htx⟩ : ∃ tx : ByteArray, w9.cell? ⟨TB, x, none⟩ = some (.string tx) ∧ tx.size ≤ 64000 := by
                have hx : x = 0 ∨ x = 1 ∨ x = 2 := by omega
                rcases hx with rfl | rfl | rfl
                · exact ⟨_, rT.cell 0 _ rfl, by decide⟩
                · exact ⟨_, rT.cell 1 _ rfl, by decide⟩
                · exact ⟨_, rT.cell 2 _ rfl, ht⟩
              go_simp
              refine hK.out _ _ hHd8 (fun _ => ?_)
              clear hK K
              try simp only [Act.put, List.getElem_toArray, List.getElem_cons_zero, List.getElem_cons_succ, List.setIfInBounds_toArray, List.set_cons_zero, List.set_cons_succ]
              refine wpAnyH_take (i := 12) (v := .pointer (some ⟨g, k * 2, none⟩)) rfl (by kernel_rfl) (by kernel_rfl) (by kernel_rfl) (fun _ _ _ h => h) (Or.inl ⟨by rfl, fun w hw => by obtain z0 := hw; go_simp⟩) hHd8 ?_
              simp only [Act.put, List.getElem_toArray, List.getElem_cons_zero, List.getElem_cons_succ, List.setIfInBounds_toArray, List.set_cons_zero, List.set_cons_succ]
              refine wpAnyH_take (i := 13) (v := .pointer (some ⟨g, k * 2, none⟩)) rfl (by kernel_rfl) (by kernel_rfl) (by kernel_rfl) (fun _ _ _ h => h) (Or.inl ⟨by rfl, fun w hw => by obtain z0 := hw; go_simp⟩) hHd8 ?_
              simp only [Act.put, List.getElem_toArray, List.getElem_cons_zero, List.getElem_cons_succ, List.setIfInBounds_toArray, List.set_cons_zero, List.set_cons_succ]
              refine wpAnyH_ready (rs := [14]) (by kernel_rfl) (by simp) ?_
              refine AllReadyH.cons rfl (fun K hK => ?_) AllReadyH.nil
              have u0 := DL.x.s.own.cellAt (k * 2) (by omega)
              rw [hcel.1] at u0
              have u1 := DL.x.s.own.frozenAt (k * 2)
              have u2 := (DL.x.s.own.lt g rfl).2
              have DM := DL.stored (by omega) (k * 2) (.string tx) _ (by simp) (prset_0 rs3 k hk tx)
              go_simp
              refine hK.out _ _ (by have h9 := DM.x.row.cell 0 _ rfl; rw [List.length_set] at h9; exact h9) (fun hHd10 => ?_)
              clear hK K
              try simp only [Act.put, List.getElem_toArray, List.getElem_cons_zero, List.getElem_cons_succ, List.setIfInBounds_toArray, List.set_cons_zero, List.set_cons_succ]
              refine wpAnyH_done (by kernel_rfl) ?_ _
              have hps2 := hps.set k (tx, (rs3.getD k (ByteArray.empty, ByteArray.empty)).2) htx (hps.get k).2
              have hl2 : (rs3.set k (tx, (rs3.getD k (ByteArray.empty, ByteArray.empty)).2)).length ≤ 102 := by simp; omega
              obtain ⟨rs4, e_r4⟩ : ∃ z, z = rs3.set k (tx, (rs3.getD k (ByteArray.empty, ByteArray.empty)).2) := ⟨_, rfl⟩
              have hl4 : rs4.length = rs3.length := by rw [e_r4, List.length_set]
              rw [← e_r4] at DM hps2 hl2
              rw [hl4] at DM
              have HL4 := hid hl4
              clear e_r4 u0 u1 u2 hl4
              have fc0 := DM.x.row.cell 0 _ rfl
              have fc1 := DM.x.row.froz 0 (by simp)
              have fc2 := DM.x.row.lt
              have fb0 := DM.rb.cell 0 _ rfl
              have fb1 := DM.rb.froz 0 (by simp)
              have fb2 := DM.rb.lt
              have fbs := DM.bs
              have fro := DM.ro
              have HFD := hid DM
              go_wp2
              refine bodyPost_ret (v := .agg #[(.slice (some ⟨g, 0, none⟩) rs3.length yc)]) (by simp [results, Try.results51, go_sem, fb0]) rfl ?_
              first | exact ⟨⟨_, rs4, rfl, HFD.out.fin.1, hl2, hps2⟩, ⟨q3 + 1 + 1 + 1 + 1 + 1, by omega, by omega, HFD.out.fin.2.1⟩, HFD.out.fin.2.2⟩ | exact ⟨⟨_, rfl, rs4, HFD.out.fin.1, hl2, hps2⟩, ⟨q3 + 1 + 1 + 1 + 1 + 1, by omega, by omega, HFD.out.fin.2.1⟩, HFD.out.fin.2.2⟩
          · go_upto_region 29 with fail
            refine wp_region_held_drew (S := fun w' => w'.cell? ⟨SB, 0, none⟩ = some (.slice (some ⟨g, 0, none⟩) rs3.length yc)) (by kernel_rfl) (D6.drew.x.row.cell 0 _ rfl) (fun hHeld => ?_)
            refine wpAnyH_take (i := 0) (v := .pointer (some ⟨SB, 0, none⟩)) rfl (by kernel_rfl) (by kernel_rfl) (by kernel_rfl) (fun _ _ _ h => h) (Or.inl ⟨by rfl, fun w hw => by obtain z0 := hw; go_simp⟩) hHeld ?_
            simp only [Act.put, List.getElem_toArray, List.getElem_cons_zero, List.getElem_cons_succ, List.setIfInBounds_toArray, List.set_cons_zero, List.set_cons_succ]
            refine wpAnyH_take (i := 1) (v := .slice (some ⟨g, 0, none⟩) rs3.length yc) rfl (by kernel_rfl) (by kernel_rfl) (by kernel_rfl) (fun _ _ _ h => h) (Or.inl ⟨by rfl, fun w hw => by obtain z0 := hw; go_simp⟩) hHeld ?_
            simp only [Act.put, List.getElem_toArray, List.getElem_cons_zero, List.getElem_cons_succ, List.setIfInBounds_toArray, List.set_cons_zero, List.set_cons_succ]
            refine wpAnyH_take (i := 2) (v := .int .i64 (k : Int)) rfl (by kernel_rfl) (by kernel_rfl) (by kernel_rfl) (fun _ _ _ h => h) (Or.inl ⟨by rfl, fun w hw => by obtain z0 := hw; go_simp⟩) hHeld ?_
            simp only [Act.put, List.getElem_toArray, List.getElem_cons_zero, List.getElem_cons_succ, List.setIfInBounds_toArray, List.set_cons_zero, List.set_cons_succ]
            refine wpAnyH_take (i := 3) (v := .pointer (some ⟨R, 0, none⟩)) rfl (by kernel_rfl) (by kernel_rfl) (by kernel_rfl) (fun _ _ _ h => h) (Or.inl ⟨by rfl, fun w hw => by obtain z0 := hw; go_simp⟩) hHeld ?_
            simp only [Act.put, List.getElem_toArray, List.getElem_cons_zero, List.getElem_cons_succ, List.setIfInBounds_toArray, List.set_cons_zero, List.set_cons_succ]
            refine wpAnyH_ready (rs := [4]) (by kernel_rfl) (by simp) ?_
            refine AllReadyH.cons rfl (fun K hK => ?_) AllReadyH.nil
            refine step_call (by rfl) 53 #[.pointer (some ⟨R, 0, none⟩), .int .i64 2] (by go_simp) (pick_r R a n c (q3 + 1 + 1 + 1) 2 _ D6.drew.rd (by omega)) ?_
            rintro e w7 ⟨⟨z, rfl, z0, z1⟩, hr7, hg7⟩
            refine ⟨_, rfl, ?_⟩
            have D7 := D6.drew.pick hr7 hg7
            clear hr7 hg7
            have hzw : IntKind.i64.wrap (100 + z) = 100 + z := wrap_i64_id _ (by omega) (by omega)
            refine hK.out _ _ (D7.x.row.cell 0 _ rfl) (fun hHd1 => ?_)
            clear hK K
            try simp only [Act.put, List.getElem_toArray, List.getElem_cons_zero, List.getElem_cons_succ, List.setIfInBounds_toArray, List.set_cons_zero, List.set_cons_succ]
            refine wpAnyH_take (i := 5) (v := .int .i64 (100 + z)) rfl (by kernel_rfl) (by kernel_rfl) (by kernel_rfl) (fun _ _ _ h => h) (Or.inl ⟨by rfl, fun w hw => by obtain z0 := hw; go_simp⟩) hHd1 ?_
            simp only [Act.put, List.getElem_toArray, List.getElem_cons_zero, List.getElem_cons_succ, List.setIfInBounds_toArray, List.set_cons_zero, List.set_cons_succ]
            refine wpAnyH_ready (rs := [6]) (by kernel_rfl) (by simp) ?_
            refine AllReadyH.cons rfl (fun K hK => ?_) AllReadyH.nil
            refine step_call (by rfl) 116 #[.string ⟨#[118]⟩, .int .i64 (100 + z)] (by go_simp) (many_r _ (100 + z) _ (by decide) (by omega)) ?_
            rintro e w8 ⟨⟨t, rfl, ht⟩, hb8⟩
            refine ⟨_, rfl, ?_⟩
            have DL := D7.below hb8
            clear hb8
            refine hK.out _ _ (DL.x.row.cell 0 _ rfl) (fun hHd2 => ?_)
            clear hK K
            try simp only [Act.put, List.getElem_toArray, List.getElem_cons_zero, List.getElem_cons_succ, List.setIfInBounds_toArray, List.set_cons_zero, List.set_cons_succ]
            refine wpAnyH_take (i := 7) (v := .pointer (some ⟨g, k * 2, none⟩)) rfl (by kernel_rfl) (by kernel_rfl) (by kernel_rfl) (fun _ _ _ h => h) (Or.inl ⟨by rfl, fun w hw => by obtain z0 := hw; go_simp⟩) hHd2 ?_
            simp only [Act.put, List.getElem_toArray, List.getElem_cons_zero, List.getElem_cons_succ, List.setIfInBounds_toArray, List.set_cons_zero, List.set_cons_succ]
            refine wpAnyH_take (i := 8) (v := .pointer (some ⟨g, k * 2 + 1, none⟩)) rfl (by kernel_rfl) (by kernel_rfl) (by kernel_rfl) (fun _ _ _ h => h) (Or.inl ⟨by rfl, fun w hw => by obtain z0 := hw; go_simp⟩) hHd2 ?_
            simp only [Act.put, List.getElem_toArray, List.getElem_cons_zero, List.getElem_cons_succ, List.setIfInBounds_toArray, List.set_cons_zero, List.set_cons_succ]
            refine wpAnyH_ready (rs := [9]) (by kernel_rfl) (by simp) ?_
            refine AllReadyH.cons rfl (fun K hK => ?_) AllReadyH.nil
            have u0 := DL.x.s.own.cellAt (k * 2 + 1) (by omega)
            rw [hcel.2] at u0
            have u1 := DL.x.s.own.frozenAt (k * 2 + 1)
            have u2 := (DL.x.s.own.lt g rfl).2
            have DM := DL.stored (by omega) (k * 2 + 1) (.string t) _ (by simp) (prset_1 rs3 k hk t)
            go_simp
            refine hK.out _ _ (by have h9 := DM.x.row.cell 0 _ rfl; rw [List.length_set] at h9; exact h9) (fun hHd3 => ?_)
            clear hK K
            try simp only [Act.put, List.getElem_toArray, List.getElem_cons_zero, List.getElem_cons_succ, List.setIfInBounds_toArray, List.set_cons_zero, List.set_cons_succ]
            refine wpAnyH_done (by kernel_rfl) ?_ _
            have hps2 := hps.set k ((rs3.getD k (ByteArray.empty, ByteArray.empty)).1, t) (hps.get k).1 ht
            have hl2 : (rs3.set k ((rs3.getD k (ByteArray.empty, ByteArray.empty)).1, t)).length ≤ 102 := by simp; omega
            obtain ⟨rs4, e_r4⟩ : ∃ z, z = rs3.set k ((rs3.getD k (ByteArray.empty, ByteArray.empty)).1, t) := ⟨_, rfl⟩
            have hl4 : rs4.length = rs3.length := by rw [e_r4, List.length_set]
            rw [← e_r4] at DM hps2 hl2
            rw [hl4] at DM
            have HL4 := hid hl4
            clear e_r4 u0 u1 u2 hl4
            have fc0 := DM.x.row.cell 0 _ rfl
            have fc1 := DM.x.row.froz 0 (by simp)
            have fc2 := DM.x.row.lt
            have fb0 := DM.rb.cell 0 _ rfl
            have fb1 := DM.rb.froz 0 (by simp)
            have fb2 := DM.rb.lt
            have fbs := DM.bs
            have fro := DM.ro
            have HFD := hid DM
            go_wp2
            refine bodyPost_ret (v := .agg #[(.slice (some ⟨g, 0, none⟩) rs3.length yc)]) (by simp [results, Try.results51, go_sem, fb0]) rfl ?_
            first | exact ⟨⟨_, rs4, rfl, HFD.out.fin.1, hl2, hps2⟩, ⟨q3 + 1 + 1 + 1 + 1, by omega, by omega, HFD.out.fin.2.1⟩, HFD.out.fin.2.2⟩ | exact ⟨⟨_, rfl, rs4, HFD.out.fin.1, hl2, hps2⟩, ⟨q3 + 1 + 1 + 1 + 1, by omega, by omega, HFD.out.fin.2.1⟩, HFD.out.fin.2.2⟩
          · have hKV := hps.get k
            obtain ⟨⟨K1, V1⟩, e_KV⟩ : ∃ z, z = rs3.getD k (ByteArray.empty, ByteArray.empty) := ⟨_, rfl⟩
            rw [← e_KV] at hKV hcel
            clear e_KV
            go_upto_region 31 with fail
            refine wp_region_held_drew (S := fun w' => True) (by kernel_rfl) (trivial) (fun hHeld => ?_)
            refine wpAnyH_take (i := 0) (v := .pointer (some ⟨SB, 0, none⟩)) rfl (by kernel_rfl) (by kernel_rfl) (by kernel_rfl) (fun _ _ _ h => h) (Or.inl ⟨by rfl, fun w hw => by obtain z0 := hw; go_simp⟩) hHeld ?_
            simp only [Act.put, List.getElem_toArray, List.getElem_cons_zero, List.getElem_cons_succ, List.setIfInBounds_toArray, List.set_cons_zero, List.set_cons_succ]
            refine wpAnyH_take (i := 2) (v := .pointer (some ⟨SB, 0, none⟩)) rfl (by kernel_rfl) (by kernel_rfl) (by kernel_rfl) (fun _ _ _ h => h) (Or.inl ⟨by rfl, fun w hw => by obtain z0 := hw; go_simp⟩) hHeld ?_
            simp only [Act.put, List.getElem_toArray, List.getElem_cons_zero, List.getElem_cons_succ, List.setIfInBounds_toArray, List.set_cons_zero, List.set_cons_succ]
            refine wpAnyH_take (i := 4) (v := .int .i64 (k : Int)) rfl (by kernel_rfl) (by kernel_rfl) (by kernel_rfl) (fun _ _ _ h => h) (Or.inl ⟨by rfl, fun w hw => by obtain z0 := hw; go_simp⟩) hHeld ?_
            simp only [Act.put, List.getElem_toArray, List.getElem_cons_zero, List.getElem_cons_succ, List.setIfInBounds_toArray, List.set_cons_zero, List.set_cons_succ]
            refine wpAnyH_ready (rs := [1, 3]) (by kernel_rfl) (by simp) ?_
            refine AllReadyH.cons rfl (fun K hK => ?_) (AllReadyH.cons rfl (fun K hK => ?_) AllReadyH.nil)
            · have l0 := D6.drew.x.row.cell 0 _ rfl
              go_simp
              refine hK.out _ _ hHeld (fun _ => ?_)
              clear hK K
              try simp only [Act.put, List.getElem_toArray, List.getElem_cons_zero, List.getElem_cons_succ, List.setIfInBounds_toArray, List.set_cons_zero, List.set_cons_succ]
              refine wpAnyH_ready (rs := [3]) (by kernel_rfl) (by simp) ?_
              refine AllReadyH.cons rfl (fun K hK => ?_) AllReadyH.nil
              have l0 := D6.drew.x.row.cell 0 _ rfl
              go_simp
              refine hK.out _ _ hHeld (fun _ => ?_)
              clear hK K
              try simp only [Act.put, List.getElem_toArray, List.getElem_cons_zero, List.getElem_cons_succ, List.setIfInBounds_toArray, List.set_cons_zero, List.set_cons_succ]
              refine wpAnyH_take (i := 5) (v := .pointer (some ⟨g, k * 2, none⟩)) rfl (by kernel_rfl) (by kernel_rfl) (by kernel_rfl) (fun _ _ _ h => h) (Or.inl ⟨by rfl, fun w hw => by obtain z0 := hw; go_simp⟩) hHeld ?_
              simp only [Act.put, List.getElem_toArray, List.getElem_cons_zero, List.getElem_cons_succ, List.setIfInBounds_toArray, List.set_cons_zero, List.set_cons_succ]
              refine wpAnyH_ready (rs := [6]) (by kernel_rfl) (by simp) ?_
              refine AllReadyH.cons rfl (fun K hK => ?_) AllReadyH.nil
              have u0 := D6.drew.x.s.own.cellAt (k * 2) (by omega)
              have u1 := D6.drew.x.s.own.cellAt (k * 2 + 1) (by omega)
              rw [hcel.1] at u0
              rw [hcel.2] at u1
              have u2 := (D6.drew.x.s.own.lt g rfl).2
              go_simp
              refine hK.out _ _ hHeld (fun _ => ?_)
              clear hK K
              try simp only [Act.put, List.getElem_toArray, List.getElem_cons_zero, List.getElem_cons_succ, List.setIfInBounds_toArray, List.set_cons_zero, List.set_cons_succ]
              refine wpAnyH_ready (rs := [7]) (by kernel_rfl) (by simp) ?_
              refine AllReadyH.cons rfl (fun K hK => ?_) AllReadyH.nil
              go_simp
              have F7 := (D6.below (below_nw _ (.cells #[.string K1, .string V1] 101))).drew
              have hW0 := D6.lt
              refine hK.out _ _ hHeld (fun _ => ?_)
              clear hK K
              try simp only [Act.put, List.getElem_toArray, List.getElem_cons_zero, List.getElem_cons_succ, List.setIfInBounds_toArray, List.set_cons_zero, List.set_cons_succ]
              refine wpAnyH_ready (rs := [8]) (by kernel_rfl) (by simp) ?_
              refine AllReadyH.cons rfl (fun K hK => ?_) AllReadyH.nil
              refine step_append_lies _ (by rfl) _ _ _ (by rfl) w.heap.size 101 i0 (.agg #[.string ByteArray.empty, .string ByteArray.empty]) 2 32 Try.underlying23 HI.out.1 HI.out.2.1 HI.out.2.2.1 HI.out.2.2.2 rfl (by omega) (.slice (some ⟨g, 0, none⟩) rs3.length yc) rs3.length _ (by rfl) F7.x.s.own ⟨w6.heap.size, 0, none⟩ 1 1 [.string K1, .string V1] (by rfl) rfl (World.news_of_block (heap_alloc_new w6.drew _)) (onePrA _ _) (by omega) (by unfold maxLen; omega) (by omega) (by simp; omega) (w6.heap.size + 1) (by simp) ?_
              intro yg ycap w9 hown9 hgrow9 hat9 hlt9
              have hown9' : w9.ownsRow w.heap.size 101 2 (.slice (some ⟨yg, 0, none⟩) (rs3 ++ [(K1, V1)]).length ycap) (rs3 ++ [(K1, V1)]).length (prcells (rs3 ++ [(K1, V1)])) := by rw [prcells_snocA, List.length_append]; exact hown9
              obtain ⟨r9, G9⟩ := F7.push hown9' hgrow9 hat9 (by simp)
              clear hown9 hgrow9 hat9
              refine hK.out _ _ hHeld (fun _ => ?_)
              clear hK K
              try simp only [Act.put, List.getElem_toArray, List.getElem_cons_zero, List.getElem_cons_succ, List.setIfInBounds_toArray, List.set_cons_zero, List.set_cons_succ]
              refine wpAnyH_take (i := 9) (v := .pointer (some ⟨SB, 0, none⟩)) rfl (by kernel_rfl) (by kernel_rfl) (by kernel_rfl) (fun _ _ _ h => h) (Or.inl ⟨by rfl, fun w hw => by obtain z0 := hw; go_simp⟩) hHeld ?_
              simp only [Act.put, List.getElem_toArray, List.getElem_cons_zero, List.getElem_cons_succ, List.setIfInBounds_toArray, List.set_cons_zero, List.set_cons_succ]
              refine wpAnyH_ready (rs := [10]) (by kernel_rfl) (by simp) ?_
              refine AllReadyH.cons rfl (fun K hK => ?_) AllReadyH.nil
              have l0 := r9.cell 0 _ rfl
              have l1 := r9.froz 0 (by simp)
              have l2 := r9.lt
              go_simp
              refine hK.out _ _ hHeld (fun _ => ?_)
              clear hK K
              try simp only [Act.put, List.getElem_toArray, List.getElem_cons_zero, List.getElem_cons_succ, List.setIfInBounds_toArray, List.set_cons_zero, List.set_cons_succ]
              refine wpAnyH_done (by kernel_rfl) ?_ _
              have hps2 := hps.snoc (K1, V1) hKV.1 hKV.2
              have hl2 : (rs3 ++ [(K1, V1)]).length ≤ 102 := by simp; omega
              have G10 : AnS w (w9.setCell ⟨SB, 0, none⟩ (.slice (some ⟨yg, 0, none⟩) (rs3.length + 1) ycap)) R a n c (q3 + 1 + 1 + 1) RB SB (.slice (some ⟨yg, 0, none⟩) (rs3.length + 1) ycap) (rs3 ++ [(K1, V1)]) := by rw [List.length_append] at G9; exact G9
              clear G9 r9 l0 l1 l2
              have fc0 := G10.x.row.cell 0 _ rfl
              have fc1 := G10.x.row.froz 0 (by simp)
              have fc2 := G10.x.row.lt
              have fb0 := G10.rb.cell 0 _ rfl
              have fb1 := G10.rb.froz 0 (by simp)
              have fb2 := G10.rb.lt
              have fbs := G10.bs
              have fro := G10.ro
              have HFD := hid G10
              go_wp2
              refine bodyPost_ret (v := .agg #[(.slice (some ⟨yg, 0, none⟩) (rs3.length + 1) ycap)]) (by simp [results, Try.results51, go_sem, fb0]) rfl ?_
              first | exact ⟨⟨_, (rs3 ++ [(K1, V1)]), rfl, HFD.out.fin.1, hl2, hps2⟩, ⟨q3 + 1 + 1 + 1, by omega, by omega, HFD.out.fin.2.1⟩, HFD.out.fin.2.2⟩ | exact ⟨⟨_, rfl, (rs3 ++ [(K1, V1)]), HFD.out.fin.1, hl2, hps2⟩, ⟨q3 + 1 + 1 + 1, by omega, by omega, HFD.out.fin.2.1⟩, HFD.out.fin.2.2⟩
            · have l0 := D6.drew.x.row.cell 0 _ rfl
              go_simp
              refine hK.out _ _ hHeld (fun _ => ?_)
              clear hK K
              try simp only [Act.put, List.getElem_toArray, List.getElem_cons_zero, List.getElem_cons_succ, List.setIfInBounds_toArray, List.set_cons_zero, List.set_cons_succ]
              refine wpAnyH_take (i := 5) (v := .pointer (some ⟨g, k * 2, none⟩)) rfl (by kernel_rfl) (by kernel_rfl) (by kernel_rfl) (fun _ _ _ h => h) (Or.inl ⟨by rfl, fun w hw => by obtain z0 := hw; go_simp⟩) hHeld ?_
              simp only [Act.put, List.getElem_toArray, List.getElem_cons_zero, List.getElem_cons_succ, List.setIfInBounds_toArray, List.set_cons_zero, List.set_cons_succ]
              refine wpAnyH_ready (rs := [1, 6]) (by kernel_rfl) (by simp) ?_
              refine AllReadyH.cons rfl (fun K hK => ?_) (AllReadyH.cons rfl (fun K hK => ?_) AllReadyH.nil)
              · have l0 := D6.drew.x.row.cell 0 _ rfl
                go_simp
                refine hK.out _ _ hHeld (fun _ => ?_)
                clear hK K
                try simp only [Act.put, List.getElem_toArray, List.getElem_cons_zero, List.getElem_cons_succ, List.setIfInBounds_toArray, List.set_cons_zero, List.set_cons_succ]
                refine wpAnyH_ready (rs := [6]) (by kernel_rfl) (by simp) ?_
                refine AllReadyH.cons rfl (fun K hK => ?_) AllReadyH.nil
                have u0 := D6.drew.x.s.own.cellAt (k * 2) (by omega)
                have u1 := D6.drew.x.s.own.cellAt (k * 2 + 1) (by omega)
                rw [hcel.1] at u0
                rw [hcel.2] at u1
                have u2 := (D6.drew.x.s.own.lt g rfl).2
                go_simp
                refine hK.out _ _ hHeld (fun _ => ?_)
                clear hK K
                try simp only [Act.put, List.getElem_toArray, List.getElem_cons_zero, List.getElem_cons_succ, List.setIfInBounds_toArray, List.set_cons_zero, List.set_cons_succ]
                refine wpAnyH_ready (rs := [7]) (by kernel_rfl) (by simp) ?_
                refine AllReadyH.cons rfl (fun K hK => ?_) AllReadyH.nil
                go_simp
                have F7 := (D6.below (below_nw _ (.cells #[.string K1, .string V1] 101))).drew
                have hW0 := D6.lt
                refine hK.out _ _ hHeld (fun _ => ?_)
                clear hK K
                try simp only [Act.put, List.getElem_toArray, List.getElem_cons_zero, List.getElem_cons_succ, List.setIfInBounds_toArray, List.set_cons_zero, List.set_cons_succ]
                refine wpAnyH_ready (rs := [8]) (by kernel_rfl) (by simp) ?_
                refine AllReadyH.cons rfl (fun K hK => ?_) AllReadyH.nil
                refine step_append_lies _ (by rfl) _ _ _ (by rfl) w.heap.size 101 i0 (.agg #[.string ByteArray.empty, .string ByteArray.empty]) 2 32 Try.underlying23 HI.out.1 HI.out.2.1 HI.out.2.2.1 HI.out.2.2.2 rfl (by omega) (.slice (some ⟨g, 0, none⟩) rs3.length yc) rs3.length _ (by rfl) F7.x.s.own ⟨w6.heap.size, 0, none⟩ 1 1 [.string K1, .string V1] (by rfl) rfl (World.news_of_block (heap_alloc_new w6.drew _)) (onePrA _ _) (by omega) (by unfold maxLen; omega) (by omega) (by simp; omega) (w6.heap.size + 1) (by simp) ?_
                intro yg ycap w9 hown9 hgrow9 hat9 hlt9
                have hown9' : w9.ownsRow w.heap.size 101 2 (.slice (some ⟨yg, 0, none⟩) (rs3 ++ [(K1, V1)]).length ycap) (rs3 ++ [(K1, V1)]).length (prcells (rs3 ++ [(K1, V1)])) := by rw [prcells_snocA, List.length_append]; exact hown9
                obtain ⟨r9, G9⟩ := F7.push hown9' hgrow9 hat9 (by simp)
                clear hown9 hgrow9 hat9
                refine hK.out _ _ hHeld (fun _ => ?_)
                clear hK K
                try simp only [Act.put, List.getElem_toArray, List.getElem_cons_zero, List.getElem_cons_succ, List.setIfInBounds_toArray, List.set_cons_zero, List.set_cons_succ]
                refine wpAnyH_take (i := 9) (v := .pointer (some ⟨SB, 0, none⟩)) rfl (by kernel_rfl) (by kernel_rfl) (by kernel_rfl) (fun _ _ _ h => h) (Or.inl ⟨by rfl, fun w hw => by obtain z0 := hw; go_simp⟩) hHeld ?_
                simp only [Act.put, List.getElem_toArray, List.getElem_cons_zero, List.getElem_cons_succ, List.setIfInBounds_toArray, List.set_cons_zero, List.set_cons_succ]
                refine wpAnyH_ready (rs := [10]) (by kernel_rfl) (by simp) ?_
                refine AllReadyH.cons rfl (fun K hK => ?_) AllReadyH.nil
                have l0 := r9.cell 0 _ rfl
                have l1 := r9.froz 0 (by simp)
                have l2 := r9.lt
                go_simp
                refine hK.out _ _ hHeld (fun _ => ?_)
                clear hK K
                try simp only [Act.put, List.getElem_toArray, List.getElem_cons_zero, List.getElem_cons_succ, List.setIfInBounds_toArray, List.set_cons_zero, List.set_cons_succ]
                refine wpAnyH_done (by kernel_rfl) ?_ _
                have hps2 := hps.snoc (K1, V1) hKV.1 hKV.2
                have hl2 : (rs3 ++ [(K1, V1)]).length ≤ 102 := by simp; omega
                have G10 : AnS w (w9.setCell ⟨SB, 0, none⟩ (.slice (some ⟨yg, 0, none⟩) (rs3.length + 1) ycap)) R a n c (q3 + 1 + 1 + 1) RB SB (.slice (some ⟨yg, 0, none⟩) (rs3.length + 1) ycap) (rs3 ++ [(K1, V1)]) := by rw [List.length_append] at G9; exact G9
                clear G9 r9 l0 l1 l2
                have fc0 := G10.x.row.cell 0 _ rfl
                have fc1 := G10.x.row.froz 0 (by simp)
                have fc2 := G10.x.row.lt
                have fb0 := G10.rb.cell 0 _ rfl
                have fb1 := G10.rb.froz 0 (by simp)
                have fb2 := G10.rb.lt
                have fbs := G10.bs
                have fro := G10.ro
                have HFD := hid G10
                go_wp2
                refine bodyPost_ret (v := .agg #[(.slice (some ⟨yg, 0, none⟩) (rs3.length + 1) ycap)]) (by simp [results, Try.results51, go_sem, fb0]) rfl ?_
                first | exact ⟨⟨_, (rs3 ++ [(K1, V1)]), rfl, HFD.out.fin.1, hl2, hps2⟩, ⟨q3 + 1 + 1 + 1, by omega, by omega, HFD.out.fin.2.1⟩, HFD.out.fin.2.2⟩ | exact ⟨⟨_, rfl, (rs3 ++ [(K1, V1)]), HFD.out.fin.1, hl2, hps2⟩, ⟨q3 + 1 + 1 + 1, by omega, by omega, HFD.out.fin.2.1⟩, HFD.out.fin.2.2⟩
              · have u0 := D6.drew.x.s.own.cellAt (k * 2) (by omega)
                have u1 := D6.drew.x.s.own.cellAt (k * 2 + 1) (by omega)
                rw [hcel.1] at u0
                rw [hcel.2] at u1
                have u2 := (D6.drew.x.s.own.lt g rfl).2
                go_simp
                refine hK.out _ _ hHeld (fun _ => ?_)
                clear hK K
                try simp only [Act.put, List.getElem_toArray, List.getElem_cons_zero, List.getElem_cons_succ, List.setIfInBounds_toArray, List.set_cons_zero, List.set_cons_succ]
                refine wpAnyH_ready (rs := [1, 7]) (by kernel_rfl) (by simp) ?_
                refine AllReadyH.cons rfl (fun K hK => ?_) (AllReadyH.cons rfl (fun K hK => ?_) AllReadyH.nil)
                · have l0 := D6.drew.x.row.cell 0 _ rfl
                  go_simp
                  refine hK.out _ _ hHeld (fun _ => ?_)
                  clear hK K
                  try simp only [Act.put, List.getElem_toArray, List.getElem_cons_zero, List.getElem_cons_succ, List.setIfInBounds_toArray, List.set_cons_zero, List.set_cons_succ]
                  refine wpAnyH_ready (rs := [7]) (by kernel_rfl) (by simp) ?_
                  refine AllReadyH.cons rfl (fun K hK => ?_) AllReadyH.nil
                  go_simp
                  have F7 := (D6.below (below_nw _ (.cells #[.string K1, .string V1] 101))).drew
                  have hW0 := D6.lt
                  refine hK.out _ _ hHeld (fun _ => ?_)
                  clear hK K
                  try simp only [Act.put, List.getElem_toArray, List.getElem_cons_zero, List.getElem_cons_succ, List.setIfInBounds_toArray, List.set_cons_zero, List.set_cons_succ]
                  refine wpAnyH_ready (rs := [8]) (by kernel_rfl) (by simp) ?_
                  refine AllReadyH.cons rfl (fun K hK => ?_) AllReadyH.nil
                  refine step_append_lies _ (by rfl) _ _ _ (by rfl) w.heap.size 101 i0 (.agg #[.string ByteArray.empty, .string ByteArray.empty]) 2 32 Try.underlying23 HI.out.1 HI.out.2.1 HI.out.2.2.1 HI.out.2.2.2 rfl (by omega) (.slice (some ⟨g, 0, none⟩) rs3.length yc) rs3.length _ (by rfl) F7.x.s.own ⟨w6.heap.size, 0, none⟩ 1 1 [.string K1, .string V1] (by rfl) rfl (World.news_of_block (heap_alloc_new w6.drew _)) (onePrA _ _) (by omega) (by unfold maxLen; omega) (by omega) (by simp; omega) (w6.heap.size + 1) (by simp) ?_
                  intro yg ycap w9 hown9 hgrow9 hat9 hlt9
                  have hown9' : w9.ownsRow w.heap.size 101 2 (.slice (some ⟨yg, 0, none⟩) (rs3 ++ [(K1, V1)]).length ycap) (rs3 ++ [(K1, V1)]).length (prcells (rs3 ++ [(K1, V1)])) := by rw [prcells_snocA, List.length_append]; exact hown9
                  obtain ⟨r9, G9⟩ := F7.push hown9' hgrow9 hat9 (by simp)
                  clear hown9 hgrow9 hat9
                  refine hK.out _ _ hHeld (fun _ => ?_)
                  clear hK K
                  try simp only [Act.put, List.getElem_toArray, List.getElem_cons_zero, List.getElem_cons_succ, List.setIfInBounds_toArray, List.set_cons_zero, List.set_cons_succ]
                  refine wpAnyH_take (i := 9) (v := .pointer (some ⟨SB, 0, none⟩)) rfl (by kernel_rfl) (by kernel_rfl) (by kernel_rfl) (fun _ _ _ h => h) (Or.inl ⟨by rfl, fun w hw => by obtain z0 := hw; go_simp⟩) hHeld ?_
                  simp only [Act.put, List.getElem_toArray, List.getElem_cons_zero, List.getElem_cons_succ, List.setIfInBounds_toArray, List.set_cons_zero, List.set_cons_succ]
                  refine wpAnyH_ready (rs := [10]) (by kernel_rfl) (by simp) ?_
                  refine AllReadyH.cons rfl (fun K hK => ?_) AllReadyH.nil
                  have l0 := r9.cell 0 _ rfl
                  have l1 := r9.froz 0 (by simp)
                  have l2 := r9.lt
                  go_simp
                  refine hK.out _ _ hHeld (fun _ => ?_)
                  clear hK K
                  try simp only [Act.put, List.getElem_toArray, List.getElem_cons_zero, List.getElem_cons_succ, List.setIfInBounds_toArray, List.set_cons_zero, List.set_cons_succ]
                  refine wpAnyH_done (by kernel_rfl) ?_ _
                  have hps2 := hps.snoc (K1, V1) hKV.1 hKV.2
                  have hl2 : (rs3 ++ [(K1, V1)]).length ≤ 102 := by simp; omega
                  have G10 : AnS w (w9.setCell ⟨SB, 0, none⟩ (.slice (some ⟨yg, 0, none⟩) (rs3.length + 1) ycap)) R a n c (q3 + 1 + 1 + 1) RB SB (.slice (some ⟨yg, 0, none⟩) (rs3.length + 1) ycap) (rs3 ++ [(K1, V1)]) := by rw [List.length_append] at G9; exact G9
                  clear G9 r9 l0 l1 l2
                  have fc0 := G10.x.row.cell 0 _ rfl
                  have fc1 := G10.x.row.froz 0 (by simp)
                  have fc2 := G10.x.row.lt
                  have fb0 := G10.rb.cell 0 _ rfl
                  have fb1 := G10.rb.froz 0 (by simp)
                  have fb2 := G10.rb.lt
                  have fbs := G10.bs
                  have fro := G10.ro
                  have HFD := hid G10
                  go_wp2
                  refine bodyPost_ret (v := .agg #[(.slice (some ⟨yg, 0, none⟩) (rs3.length + 1) ycap)]) (by simp [results, Try.results51, go_sem, fb0]) rfl ?_
                  first | exact ⟨⟨_, (rs3 ++ [(K1, V1)]), rfl, HFD.out.fin.1, hl2, hps2⟩, ⟨q3 + 1 + 1 + 1, by omega, by omega, HFD.out.fin.2.1⟩, HFD.out.fin.2.2⟩ | exact ⟨⟨_, rfl, (rs3 ++ [(K1, V1)]), HFD.out.fin.1, hl2, hps2⟩, ⟨q3 + 1 + 1 + 1, by omega, by omega, HFD.out.fin.2.1⟩, HFD.out.fin.2.2⟩
                · go_simp
                  have F7 := (D6.below (below_nw _ (.cells #[.string K1, .string V1] 101))).drew
                  have hW0 := D6.lt
                  refine hK.out _ _ hHeld (fun _ => ?_)
                  clear hK K
                  try simp only [Act.put, List.getElem_toArray, List.getElem_cons_zero, List.getElem_cons_succ, List.setIfInBounds_toArray, List.set_cons_zero, List.set_cons_succ]
                  refine wpAnyH_ready (rs := [1]) (by kernel_rfl) (by simp) ?_
                  refine AllReadyH.cons rfl (fun K hK => ?_) AllReadyH.nil
                  have l0 := F7.x.row.cell 0 _ rfl
                  go_simp
                  refine hK.out _ _ hHeld (fun _ => ?_)
                  clear hK K
                  try simp only [Act.put, List.getElem_toArray, List.getElem_cons_zero, List.getElem_cons_succ, List.setIfInBounds_toArray, List.set_cons_zero, List.set_cons_succ]
                  refine wpAnyH_ready (rs := [8]) (by kernel_rfl) (by simp) ?_
                  refine AllReadyH.cons rfl (fun K hK => ?_) AllReadyH.nil
                  refine step_append_lies _ (by rfl) _ _ _ (by rfl) w.heap.size 101 i0 (.agg #[.string ByteArray.empty, .string ByteArray.empty]) 2 32 Try.underlying23 HI.out.1 HI.out.2.1 HI.out.2.2.1 HI.out.2.2.2 rfl (by omega) (.slice (some ⟨g, 0, none⟩) rs3.length yc) rs3.length _ (by rfl) F7.x.s.own ⟨w6.heap.size, 0, none⟩ 1 1 [.string K1, .string V1] (by rfl) rfl (World.news_of_block (heap_alloc_new w6.drew _)) (onePrA _ _) (by omega) (by unfold maxLen; omega) (by omega) (by simp; omega) (w6.heap.size + 1) (by simp) ?_
                  intro yg ycap w9 hown9 hgrow9 hat9 hlt9
                  have hown9' : w9.ownsRow w.heap.size 101 2 (.slice (some ⟨yg, 0, none⟩) (rs3 ++ [(K1, V1)]).length ycap) (rs3 ++ [(K1, V1)]).length (prcells (rs3 ++ [(K1, V1)])) := by rw [prcells_snocA, List.length_append]; exact hown9
                  obtain ⟨r9, G9⟩ := F7.push hown9' hgrow9 hat9 (by simp)
                  clear hown9 hgrow9 hat9
                  refine hK.out _ _ hHeld (fun _ => ?_)
                  clear hK K
                  try simp only [Act.put, List.getElem_toArray, List.getElem_cons_zero, List.getElem_cons_succ, List.setIfInBounds_toArray, List.set_cons_zero, List.set_cons_succ]
                  refine wpAnyH_take (i := 9) (v := .pointer (some ⟨SB, 0, none⟩)) rfl (by kernel_rfl) (by kernel_rfl) (by kernel_rfl) (fun _ _ _ h => h) (Or.inl ⟨by rfl, fun w hw => by obtain z0 := hw; go_simp⟩) hHeld ?_
                  simp only [Act.put, List.getElem_toArray, List.getElem_cons_zero, List.getElem_cons_succ, List.setIfInBounds_toArray, List.set_cons_zero, List.set_cons_succ]
                  refine wpAnyH_ready (rs := [10]) (by kernel_rfl) (by simp) ?_
                  refine AllReadyH.cons rfl (fun K hK => ?_) AllReadyH.nil
                  have l0 := r9.cell 0 _ rfl
                  have l1 := r9.froz 0 (by simp)
                  have l2 := r9.lt
                  go_simp
                  refine hK.out _ _ hHeld (fun _ => ?_)
                  clear hK K
                  try simp only [Act.put, List.getElem_toArray, List.getElem_cons_zero, List.getElem_cons_succ, List.setIfInBounds_toArray, List.set_cons_zero, List.set_cons_succ]
                  refine wpAnyH_done (by kernel_rfl) ?_ _
                  have hps2 := hps.snoc (K1, V1) hKV.1 hKV.2
                  have hl2 : (rs3 ++ [(K1, V1)]).length ≤ 102 := by simp; omega
                  have G10 : AnS w (w9.setCell ⟨SB, 0, none⟩ (.slice (some ⟨yg, 0, none⟩) (rs3.length + 1) ycap)) R a n c (q3 + 1 + 1 + 1) RB SB (.slice (some ⟨yg, 0, none⟩) (rs3.length + 1) ycap) (rs3 ++ [(K1, V1)]) := by rw [List.length_append] at G9; exact G9
                  clear G9 r9 l0 l1 l2
                  have fc0 := G10.x.row.cell 0 _ rfl
                  have fc1 := G10.x.row.froz 0 (by simp)
                  have fc2 := G10.x.row.lt
                  have fb0 := G10.rb.cell 0 _ rfl
                  have fb1 := G10.rb.froz 0 (by simp)
                  have fb2 := G10.rb.lt
                  have fbs := G10.bs
                  have fro := G10.ro
                  have HFD := hid G10
                  go_wp2
                  refine bodyPost_ret (v := .agg #[(.slice (some ⟨yg, 0, none⟩) (rs3.length + 1) ycap)]) (by simp [results, Try.results51, go_sem, fb0]) rfl ?_
                  first | exact ⟨⟨_, (rs3 ++ [(K1, V1)]), rfl, HFD.out.fin.1, hl2, hps2⟩, ⟨q3 + 1 + 1 + 1, by omega, by omega, HFD.out.fin.2.1⟩, HFD.out.fin.2.2⟩ | exact ⟨⟨_, rfl, (rs3 ++ [(K1, V1)]), HFD.out.fin.1, hl2, hps2⟩, ⟨q3 + 1 + 1 + 1, by omega, by omega, HFD.out.fin.2.1⟩, HFD.out.fin.2.2⟩
          · go_wp2
            go_loopw [11] (fun iv wr => ∃ (i : Nat) (rs : List Pr) (Y : Value) (W : World), W = wr ∧ iv = .int .i64 (i : Int) ∧ i ≤ rs.length ∧ rs.length ≤ 101 ∧ psLe rs 64000 64000 ∧ AnS w W R a n c (q3 + 1 + 1 + 1) RB SB Y rs) (fun iv _ => (300 - intOf iv).toNat)
            case atStart => exact ⟨0, rs3, _, _, rfl, rfl, Nat.zero_le _, by omega, hps, D6⟩
            case round =>
              obtain ⟨i, rs, y, wr, rfl, rfl, hi, hrl2, hps2, D⟩ := hrel
              clear D6 hcel
              obtain ⟨ya, yc, rfl, _⟩ := owns_prs D.x.s.own
              have c0 := D.x.row.cell 0 _ rfl
              have c1 := D.x.row.froz 0 (by simp)
              have c2 := D.x.row.lt
              by_cases hlt : (rs.length : Int) < 101
              · have hiw : IntKind.i64.wrap ((i : Int) + 1) = (i : Int) + 1 := wrap_i64_id _ (by omega) (by omega)
                obtain ⟨tu, tv, t1, t2, t3, t4, t5, t6, t7, t8⟩ := ten_parts i (by omega)
                have tw1 : IntKind.i64.wrap (48 + tu) = 48 + tu := wrap_i64_id _ (by omega) (by omega)
                have tw2 : IntKind.i64.wrap (48 + tv) = 48 + tv := wrap_i64_id _ (by omega) (by omega)
                have tw3 : IntKind.i64.wrap tu = tu := wrap_i64_id _ (by omega) (by omega)
                have tw4 : IntKind.u8.wrap (48 + tu) = 48 + tu := by simp [IntKind.wrap, IntKind.bits, IntKind.signed]; omega
                have tw5 : IntKind.u8.wrap (48 + tv) = 48 + tv := by simp [IntKind.wrap, IntKind.bits, IntKind.signed]; omega
                have rT := row_new wr #[.int .u8 (48 + tu), .int .u8 (48 + tv)] 5
                have hcv := bytes_2 _ _ _ _ (rT.cell 0 _ rfl) (rT.cell 1 _ rfl)
                obtain ⟨K0, e_K0⟩ : ∃ z, z = strOfNums [48 + tu, 48 + tv] := ⟨_, rfl⟩
                have hK0 : K0.size = 2 := by rw [e_K0, strOfNums_size]; rfl
                rw [← e_K0] at hcv
                clear e_K0 rT
                obtain ⟨KY, e_KY⟩ : ∃ z, (⟨#[122, 122]⟩ : ByteArray) ++ K0 = z := ⟨_, rfl⟩
                have hKY : KY.size = 4 := by rw [← e_KY, ByteArray.size_append]; show 2 + K0.size = 4; omega
                have zk1 : ¬ (9223372036854775807 < 2 + K0.size) := by omega
                have F2 := (D.below (below_nw _ (.cells #[.int .u8 (48 + tu), .int .u8 (48 + tv)] 5))).below (below_nw _ (.cells #[.string KY, .string ⟨#[]⟩] 101))
                have hW0 := D.lt
                have HF2 := hid F2
                clear F2
                go_wp2_with (first | (at_builtin; refine wpList_append_lies _ rfl _ _ 23 rfl w.heap.size 101 i0 (.agg #[.string ByteArray.empty, .string ByteArray.empty]) 2 32 Try.underlying23 HI.out.1 HI.out.2.1 HI.out.2.2.1 HI.out.2.2.2 rfl (by omega) _ rs.length _ rfl HF2.out.x.s.own ⟨wr.heap.size + 1, 0, none⟩ 1 1 [.string KY, .string ⟨#[]⟩] rfl rfl (news_2 _ _ _ _) (onePrA _ _) (by omega) (by unfold maxLen; omega) (by omega) (by simp; omega) (wr.heap.size + 1 + 1) (by simp) ?_; intro yg ycap w9 hown9 hgrow9 hat9 hlt9; have hown9' : w9.ownsRow w.heap.size 101 2 (.slice (some ⟨yg, 0, none⟩) (rs ++ [((KY, ⟨#[]⟩) : Pr)]).length ycap) (rs ++ [((KY, ⟨#[]⟩) : Pr)]).length (prcells (rs ++ [((KY, ⟨#[]⟩) : Pr)])) := (by rw [prcells_snocA, List.length_append]; exact hown9); obtain ⟨r9, G9⟩ := HF2.out.push hown9' hgrow9 hat9 (by simp); have l0 := r9.cell 0 _ rfl; have l1 := r9.froz 0 (by simp); have l2 := r9.lt; rw [List.length_append] at G9; have HG9 := hid G9; clear hown9 hgrow9 hat9 hown9' G9 r9))
                exact ⟨⟨i + 1, rs ++ [((KY, ⟨#[]⟩) : Pr)], _, _, rfl, by simp, by simp; omega, by simp; omega, hps2.snoc _ (by show KY.size ≤ 64000; omega) (Nat.zero_le _), HG9.out⟩, by simp [intOf]; omega⟩
              · clear c0 c1 c2
                have fc0 := D.x.row.cell 0 _ rfl
                have fc1 := D.x.row.froz 0 (by simp)
                have fc2 := D.x.row.lt
                have fb0 := D.rb.cell 0 _ rfl
                have fb1 := D.rb.froz 0 (by simp)
                have fb2 := D.rb.lt
                have fbs := D.bs
                have fro := D.ro
                have HFD := hid D
                go_wp2
                refine bodyPost_ret (v := .agg #[(.slice ya rs.length yc)]) (by simp [results, Try.results51, go_sem, fb0]) rfl ?_
                first | exact ⟨⟨_, rs, rfl, HFD.out.fin.1, by omega, hps2⟩, ⟨q3 + 1 + 1 + 1, by omega, by omega, HFD.out.fin.2.1⟩, HFD.out.fin.2.2⟩ | exact ⟨⟨_, rfl, rs, HFD.out.fin.1, by omega, hps2⟩, ⟨q3 + 1 + 1 + 1, by omega, by omega, HFD.out.fin.2.1⟩, HFD.out.fin.2.2⟩
      · have hvb : (v == 0) = false := by simp [hv]
        have fc0 := D4.x.row.cell 0 _ rfl
        have fc1 := D4.x.row.froz 0 (by simp)
        have fc2 := D4.x.row.lt
        have fb0 := D4.rb.cell 0 _ rfl
        have fb1 := D4.rb.froz 0 (by simp)
        have fb2 := D4.rb.lt
        have fbs := D4.bs
        have fro := D4.ro
        have HFD := hid D4
        go_wp2
        refine bodyPost_ret (v := .agg #[(.slice ya rs3.length yc)]) (by simp [results, Try.results51, go_sem, fb0]) rfl ?_
        first | exact ⟨⟨_, rs3, rfl, HFD.out.fin.1, by omega, hps⟩, ⟨q3 + 1, by omega, by omega, HFD.out.fin.2.1⟩, HFD.out.fin.2.2⟩ | exact ⟨⟨_, rfl, rs3, HFD.out.fin.1, by omega, hps⟩, ⟨q3 + 1, by omega, by omega, HFD.out.fin.2.1⟩, HFD.out.fin.2.2⟩
end Go.Proofs.Ytnmaknnnmjfhkad
