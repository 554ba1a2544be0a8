import Derived.Test.YtnmaknnnmjfhkagGreatDoorPrG41
import Derived.Test.YtnmaknnnmjfhkagGreatDoorPrApU
import Derived.Test.YtnmaknnnmjfhkagGreatDoorPrG42
import Derived.Test.YtnmaknnnmjfhkagGreatDoorPrG49
namespace Go.Proofs.YtnmaknnnmjfhkagGreatDoor
open Go.RowKit
set_option maxRecDepth 8000
set_option linter.unusedVariables false
set_option linter.unusedSimpArgs false
set_option maxHeartbeats 8000000 in
theorem fold_i (a : Option Addr) (es : List ByteArray) (c : Nat) (w : World) (h : Strs w a es) (hl : es.length ≤ 1000) (hs : ∀ e ∈ es, e.size ≤ 1048576) :
    Calls Tryz.prog 65 #[.slice a es.length c] w fun e w' => FdPost w w' e (foldE es []) := by
  obtain ⟨RES, HRES⟩ : ∃ RES, Hid (RES = foldE es []) := ⟨_, hid rfl⟩
  rw [← HRES.out]
  have HH := hid h
  have HS := hid hs
  clear h hs
  go_enter Tryz.func65, Tryz.ntmps65
  go_wp2
  go_loopw [13] (fun iv wr => ∃ (i : Nat) (rs : List Pr) (sa : Option Addr) (sc : Nat) (W : World), W = wr ∧ iv = .int .i64 (i : Int) ∧ i ≤ es.length ∧ stateOk rs = true ∧ Hid (foldE (es.drop i) rs = RES) ∧ FdB w W rs sa sc) (fun iv _ => ((es.length : Int) - intOf iv).toNat)
  case atStart => exact ⟨0, [], none, 0, _, rfl, rfl, Nat.zero_le _, stateOk_nil, by show _ = _; rw [HRES.out]; rfl, FdB.new w⟩
  case round =>
    obtain ⟨i, rs, sa, sc, wr, rfl, rfl, hi, hok, HF, D⟩ := hrel
    have HD := hid D
    have d1 := D.st.cell 0 _ rfl
    have d1l := D.st.lt
    have d0 := D.rb.cell 0 _ rfl
    have d0l := D.rb.lt
    have d0f := D.rb.froz 0 (by simp)
    have hok' := stateOk_sizes hok
    have hrl := hok'.1
    have HOK := hid hok
    have HSZ := hid hok'.2
    clear hok hok' D
    by_cases hlt : i < es.length
    · have hlt' : (i : Int) < (es.length : Int) := by omega
      have hi0 : (0 : Int) ≤ (i : Int) := by omega
      have hw1 : IntKind.i64.wrap ((i : Int) + 1) = (i : Int) + 1 := by simp [IntKind.wrap, IntKind.bits, IntKind.signed]; omega
      obtain ⟨b, o, s, rfl, hc, HE⟩ := (HH.out.below HD.out.be).at hlt
      have hes : s.size ≤ 1048576 := HS.out s (by rw [HE.out]; simp [List.getD, hlt])
      have hdr : es.drop i = s :: es.drop (i + 1) := by rw [HE.out]; simp [List.getD, hlt]
      have hbl : b < wr.heap.size := by have := World.block_lt_of_cell? wr _ hc; simpa using this
      have HRB := hid (fun wx => read_i s wx hes)
      rw [res_eq] at HRB
      rw [hdr] at HF
      have HDR := hid hdr
      clear hdr
      cases hR : resS s with
      | none =>
        rw [hR] at HRB
        have HN : Hid (RES = none) := by show _ = _; rw [← HF.out]; exact foldE_none hR
        clear hR
        go_wp2_with fail
        refine (HRB.out _).mono ?_
        rintro e w5 ⟨ab, cb, rfl, _, _, hb5⟩
        simp only [Option.getD_none, Option.isSome_none, List.length_nil]
        have D5 := HD.out.below hb5
        have HD5 := hid D5
        have r0 := D5.rb.cell 0 _ rfl
        have r0l := D5.rb.lt
        have r0f := D5.rb.froz 0 (by simp)
        clear d1 d1l d0 d0l d0f D5 hb5 hc
        go_wp2
        refine bodyPost_ret (v := .tuple #[stV none 0 0, .bool false]) (by simp [results, Tryz.results65, go_sem, r0, stV]) rfl ?_
        rw [HN.out]
        exact ⟨none, 0, rfl, Nat.le_refl _, .inl rfl, fun g hg => (by cases hg), HD5.out.be.setCell (by show w.heap.size ≤ w.heap.size; omega) _⟩
      | some bb =>
        rw [hR] at HRB
        have hbs := batchOk_sizes (resS_ok hR)
        have HBS := hid hbs.2
        have hbl2 := hbs.1
        clear hbs
        by_cases hc0 : apC rs bb = 0
        · have HN : Hid (foldE (es.drop (i + 1)) (apU rs bb) = RES) := by show _ = _; rw [← HF.out]; exact (foldE_yes hR hc0).symm
          have hU : apR rs bb = apU rs bb := by unfold apR; rw [if_pos hc0]
          have HOU := hid (apU_ok hc0)
          clear hR
          go_wp2_with fail
          refine (HRB.out _).mono ?_
          rintro e w5 ⟨ab, cb, rfl, ho5, hg5, hb5⟩
          simp only [Option.getD_some, Option.isSome_some] at ho5 hg5 ⊢
          have D5 := HD.out.below hb5
          have HD5 := hid D5
          have r1 := D5.st.cell 0 _ rfl
          have r1l := D5.st.lt
          have HAP := hid (apply_i sa rs sc ab bb cb w5 D5.own.prs (by omega) HSZ.out (ownS_chs ho5) (by omega) HBS.out)
          rw [hU, hc0] at HAP
          clear d1 d1l d0 d0l d0f D5 hb5 hc ho5 hg5
          go_wp2_with fail
          refine HAP.out.mono ?_
          rintro e w6 ⟨a6, c6, rfl, hc6, ho6, hg6, hb6⟩
          have D6 := (HD5.out.below hb6).below (below_new w6 (.cells #[.slice a6 (apU rs bb).length c6] 31))
          have HD6 := hid (D6.set ho6 hc6 (fun g hg => by have := hg6 g hg; omega))
          have x1 := D6.st.cell 0 _ rfl
          have x1f := D6.st.froz 0 (by simp)
          have x1l := D6.st.lt
          have x6 : w6.heap.size ≠ w.heap.size + 1 := by have := (HD5.out.below hb6).st.lt; omega
          clear r1 r1l D6 hb6 ho6 hg6 hc0 hU
          go_wp2
          exact ⟨⟨i + 1, _, a6, c6, _, rfl, by simp, by omega, HOU.out, HN, HD6.out⟩, by simp [intOf]; omega⟩
        · have HN : Hid (RES = none) := by show _ = _; rw [← HF.out]; exact foldE_no hR hc0
          have hU : apR rs bb = [] := by unfold apR; rw [if_neg hc0]
          have hcb : (apC rs bb == 0) = false := by simp [hc0]
          have hcb2 : (apC rs bb != 0) = true := by simp [hc0]
          clear hR
          go_wp2_with fail
          refine (HRB.out _).mono ?_
          rintro e w5 ⟨ab, cb, rfl, ho5, hg5, hb5⟩
          simp only [Option.getD_some, Option.isSome_some] at ho5 hg5 ⊢
          have D5 := HD.out.below hb5
          have HD5 := hid D5
          have r1 := D5.st.cell 0 _ rfl
          have r1l := D5.st.lt
          have HAP := hid (apply_i sa rs sc ab bb cb w5 D5.own.prs (by omega) HSZ.out (ownS_chs ho5) (by omega) HBS.out)
          rw [hU] at HAP
          clear d1 d1l d0 d0l d0f D5 hb5 hc ho5 hg5 hU
          go_wp2_with fail
          refine HAP.out.mono ?_
          rintro e w6 ⟨a6, c6, rfl, hc6, ho6, hg6, hb6⟩
          have D6 := (HD5.out.below hb6).below (below_new w6 (.cells #[.slice a6 0 c6] 31))
          have HD6 := hid D6
          have r0 := D6.rb.cell 0 _ rfl
          have r0l := D6.rb.lt
          have r0f := D6.rb.froz 0 (by simp)
          clear r1 r1l D6 hb6 ho6 hg6
          go_wp2
          refine bodyPost_ret (v := .tuple #[stV none 0 0, .bool false]) (by simp [results, Tryz.results65, go_sem, r0, stV]) rfl ?_
          rw [HN.out]
          exact ⟨none, 0, rfl, Nat.le_refl _, .inl rfl, fun g hg => (by cases hg), HD6.out.be.setCell (by show w.heap.size ≤ w.heap.size; omega) _⟩
    · have HN : Hid (RES = some rs) := by show _ = _; rw [← HF.out, List.drop_of_length_le (by omega)]; rfl
      have hlt' : ¬ ((i : Int) < (es.length : Int)) := by omega
      have hne : ¬ (w.heap.size = w.heap.size + 1) := by omega
      go_wp2
      refine bodyPost_ret (v := .tuple #[stV sa rs.length sc, .bool true]) (by simp [results, Tryz.results65, go_sem, d0, stV]) rfl ?_
      rw [HN.out]
      refine ⟨sa, sc, rfl, HD.out.cap, OwnS.setF HD.out.own ⟨w.heap.size, 0, none⟩ (fun g hg hn => ?_) _, fun g hg => by have := HD.out.lo g hg; omega, HD.out.be.setCell (by show w.heap.size ≤ w.heap.size; omega) _⟩
      have := HD.out.lo g (by subst hg; exact blk_pos _ _ _ (prcells_neF hn))
      show w.heap.size ≠ g
      omega
end Go.Proofs.YtnmaknnnmjfhkagGreatDoor
