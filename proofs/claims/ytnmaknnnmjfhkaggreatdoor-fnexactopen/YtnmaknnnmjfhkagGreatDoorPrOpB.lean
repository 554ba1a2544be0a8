import Derived.Test.YtnmaknnnmjfhkagGreatDoorPrG43
import Derived.Test.YtnmaknnnmjfhkagGreatDoorPrMvL
import Derived.Test.YtnmaknnnmjfhkagGreatDoorPrG51
import Derived.Test.YtnmaknnnmjfhkagGreatDoorPrG44
namespace Go.Proofs.YtnmaknnnmjfhkagGreatDoor
open Go.RowKit
set_option linter.unusedVariables false
set_option linter.unusedSimpArgs false
set_option maxRecDepth 8000
set_option maxHeartbeats 16000000 in
theorem begin_i (W S L T H F R U O : Int) (a : Option Addr) (rs : List Pr) (c : Nat) (w : World) (h0 : 0 ≤ H ∧ H ≤ 1) (f0 : 1 ≤ F ∧ F ≤ 999999000) (u0 : 0 ≤ U ∧ U ≤ 99) :
    Calls Tryz.prog 69 #[storeV W S L T H F R U O a rs.length c] w fun x w' => MvPost w w' x ⟨0, W, S, L, T, H, F, R, U + 1, O, rs, [(false, 2 + H * hv S + U, formOf 3 L (F + U) ByteArray.empty W), (true, 0, ByteArray.empty)]⟩ a c := by
  have hQ : 0 ≤ hv S ∧ hv S ≤ 99 := by by_cases h : 8 ≤ S ∧ S ≤ 200; have := hv_yes h; omega; rw [hv_no h]; omega
  have HWO := hid (fun w' => writer_of W S L T H F R U O a rs.length c w' h0.1 h0.2 f0.1 f0.2 u0.1 u0.2)
  unfold storeV at HWO ⊢
  obtain ⟨q, hq⟩ : ∃ q, q = 2 + H * hv S := ⟨_, rfl⟩
  have hqb : 2 ≤ q ∧ q ≤ 101 := by
    rcases (show H = 0 ∨ H = 1 by omega) with e | e
    · subst e; omega
    · subst e; omega
  rw [← hq] at HWO ⊢
  clear hq hQ
  have hw1 : IntKind.i64.wrap (U + 1) = U + 1 := by simp [IntKind.wrap, IntKind.bits, IntKind.signed]; omega
  go_enter Tryz.func69, Tryz.ntmps69
  go_wp2_with fail
  obtain ⟨v0, e0⟩ : ∃ x, x = (w.alloc (.cells #[.int .i64 W, .int .i64 S, .int .i64 L, .int .i64 T, .int .i64 H, .int .i64 F, .int .i64 R, .int .i64 U, .int .i64 O, .slice a rs.length c] 33)).alloc (.cells #[.int .i64 0, .int .i64 0, .int .i64 0, .int .i64 0, .int .i64 0, .int .i64 0, .int .i64 0, .int .i64 0, .int .i64 0, .int .i64 0, .slice none 0 0, .slice none 0 0] 36) := ⟨_, rfl⟩
  have hE : Below w.heap.size w v0 := by rw [e0]; exact ((Below.refl _ _).alloc (Nat.le_refl _) _).alloc (by simp) _
  have s_v0 : w.heap.size + 1 + 1 ≤ v0.heap.size := by rw [e0]; simp
  have bS : Dep v0 w.heap.size (w.heap.size + 1) (fun W' => Row W' w.heap.size [.int .i64 W, .int .i64 S, .int .i64 L, .int .i64 T, .int .i64 H, .int .i64 F, .int .i64 R, .int .i64 U, .int .i64 O, .slice a rs.length c]) := by rw [e0]; exact (dep_box w _ _).below ((Below.refl _ _).alloc (Nat.le_refl _) _)
  have bD : Dep v0 (w.heap.size + 1) (w.heap.size + 1 + 1) (fun W' => Row W' (w.heap.size + 1) [.int .i64 0, .int .i64 0, .int .i64 0, .int .i64 0, .int .i64 0, .int .i64 0, .int .i64 0, .int .i64 0, .int .i64 0, .int .i64 0, .slice none 0 0, .slice none 0 0]) := by rw [e0]; exact dep_row (row_at (w := w.alloc _) (by simp)) (Nat.le_refl _) (by omega) (by simp)
  rw [← e0]
  clear e0
  refine (HWO.out _).mono ?_
  rintro e v1 ⟨g, rfl, hWr, hb⟩
  have s_v1 : v0.heap.size ≤ v1.heap.size := hb.size
  have n_bS := bS.below hb
  clear bS
  have bS := n_bS
  clear n_bS
  have n_bD := bD.below hb
  clear bD
  have bD := n_bD
  clear n_bD
  have n_hE := hE.trans (hb.mono hE.size)
  clear hE
  have hE := n_hE
  clear n_hE
  clear hb
  have hgg := hWr.ge
  have HWR := hid hWr
  clear hWr
  go_wp2_with fail
  refine (newlife_i v0.heap.size g _ [] (q + U) (F + U) L W _ HWR.out (by omega) (by simp) (by omega) (by omega) (by omega) (by omega)).mono ?_
  rintro e x1 ⟨⟨x, rfl⟩, v8, hW8, hb8, _⟩
  have s_x1 := hb8.size
  have n_bS := bS.low hb8 (by omega)
  clear bS
  have bS := n_bS
  clear n_bS
  have n_bD := bD.low hb8 (by omega)
  clear bD
  have bD := n_bD
  clear n_bD
  have n_hE := hE.trans (hb8.mono (by omega))
  clear hE
  have hE := n_hE
  clear n_hE
  have HW8 := hid hW8
  clear hW8 hb8
  go_wp2_with fail
  refine (sync_i v0.heap.size g _ _ _ _ _ _ _ HW8.out (by omega) (by simp)).mono ?_
  rintro e x2 ⟨⟨x9, rfl⟩, ⟨v9, hW9⟩, hb9⟩
  have s_x2 := hb9.size
  have n_bS := bS.low hb9 (by omega)
  clear bS
  have bS := n_bS
  clear n_bS
  have n_bD := bD.low hb9 (by omega)
  clear bD
  have bD := n_bD
  clear n_bD
  have n_hE := hE.trans (hb9.mono (by omega))
  clear hE
  have hE := n_hE
  clear n_hE
  clear hb9 HW8
  simp only [List.nil_append, List.cons_append] at hW9
  obtain ⟨ya, yc, rfl⟩ := hW9.sl
  simp only [List.length_cons, List.length_nil, Nat.reduceAdd] at hW9
  have y0 := hW9.row.cell 0 _ rfl
  have yl := hW9.row.lt
  have hgn : w.heap.size ≠ g := by omega
  have hgn1 : w.heap.size + 1 ≠ g := by omega
  have hgn2 : ¬ g = w.heap.size + 1 := by omega
  have hgn3 : ¬ g = w.heap.size := by omega
  have HW9 := hid hW9
  clear hW9
  have q_bS_0 := bS.now.cell 0 _ rfl
  have f_bS_0 := bS.now.froz 0 (by simp)
  have q_bS_1 := bS.now.cell 1 _ rfl
  have f_bS_1 := bS.now.froz 1 (by simp)
  have q_bS_2 := bS.now.cell 2 _ rfl
  have f_bS_2 := bS.now.froz 2 (by simp)
  have q_bS_3 := bS.now.cell 3 _ rfl
  have f_bS_3 := bS.now.froz 3 (by simp)
  have q_bS_4 := bS.now.cell 4 _ rfl
  have f_bS_4 := bS.now.froz 4 (by simp)
  have q_bS_5 := bS.now.cell 5 _ rfl
  have f_bS_5 := bS.now.froz 5 (by simp)
  have q_bS_6 := bS.now.cell 6 _ rfl
  have f_bS_6 := bS.now.froz 6 (by simp)
  have q_bS_7 := bS.now.cell 7 _ rfl
  have f_bS_7 := bS.now.froz 7 (by simp)
  have q_bS_8 := bS.now.cell 8 _ rfl
  have f_bS_8 := bS.now.froz 8 (by simp)
  have q_bS_9 := bS.now.cell 9 _ rfl
  have f_bS_9 := bS.now.froz 9 (by simp)
  have q_bS_l := bS.now.lt
  have q_bD_0 := bD.now.cell 0 _ rfl
  have f_bD_0 := bD.now.froz 0 (by simp)
  have q_bD_1 := bD.now.cell 1 _ rfl
  have f_bD_1 := bD.now.froz 1 (by simp)
  have q_bD_2 := bD.now.cell 2 _ rfl
  have f_bD_2 := bD.now.froz 2 (by simp)
  have q_bD_3 := bD.now.cell 3 _ rfl
  have f_bD_3 := bD.now.froz 3 (by simp)
  have q_bD_4 := bD.now.cell 4 _ rfl
  have f_bD_4 := bD.now.froz 4 (by simp)
  have q_bD_5 := bD.now.cell 5 _ rfl
  have f_bD_5 := bD.now.froz 5 (by simp)
  have q_bD_6 := bD.now.cell 6 _ rfl
  have f_bD_6 := bD.now.froz 6 (by simp)
  have q_bD_7 := bD.now.cell 7 _ rfl
  have f_bD_7 := bD.now.froz 7 (by simp)
  have q_bD_8 := bD.now.cell 8 _ rfl
  have f_bD_8 := bD.now.froz 8 (by simp)
  have q_bD_9 := bD.now.cell 9 _ rfl
  have f_bD_9 := bD.now.froz 9 (by simp)
  have q_bD_10 := bD.now.cell 10 _ rfl
  have f_bD_10 := bD.now.froz 10 (by simp)
  have q_bD_11 := bD.now.cell 11 _ rfl
  have f_bD_11 := bD.now.froz 11 (by simp)
  have q_bD_l := bD.now.lt
  go_wp2_with fail
  refine wp_region_held_drew (S := fun w' => w'.cell? ⟨w.heap.size, 0, none⟩ = some (.int .i64 W) ∧ w'.cell? ⟨w.heap.size, 1, none⟩ = some (.int .i64 S) ∧ w'.cell? ⟨w.heap.size, 2, none⟩ = some (.int .i64 L) ∧ w'.cell? ⟨w.heap.size, 3, none⟩ = some (.int .i64 T) ∧ w'.cell? ⟨w.heap.size, 4, none⟩ = some (.int .i64 H) ∧ w'.cell? ⟨w.heap.size, 5, none⟩ = some (.int .i64 F) ∧ w'.cell? ⟨w.heap.size, 6, none⟩ = some (.int .i64 R) ∧ w'.cell? ⟨w.heap.size, 7, none⟩ = some (.int .i64 (U + 1)) ∧ w'.cell? ⟨w.heap.size, 8, none⟩ = some (.int .i64 O) ∧ w'.cell? ⟨w.heap.size, 9, none⟩ = some (.slice a rs.length c) ∧ w'.cell? ⟨g, 0, none⟩ = some (.slice ya 2 yc)) (by kernel_rfl) (⟨by go_simp, by go_simp, by go_simp, by go_simp, by go_simp, by go_simp, by go_simp, by go_simp, by go_simp, by go_simp, by go_simp⟩) (fun hHeld => ?_)
  refine TK (i := 0) (v := .agg #[.int .i64 W, .int .i64 S, .int .i64 L, .int .i64 T, .int .i64 H, .int .i64 F, .int .i64 R, .int .i64 (U + 1), .int .i64 O, .slice a rs.length c]) rfl (Or.inl ⟨by rfl, fun w hw => by obtain ⟨z0, z1, z2, z3, z4, z5, z6, z7, z8, z9, z10⟩ := hw; go_simp⟩) hHeld ?_
  simp only [PS]
  refine TK (i := 1) (v := .pointer (some ⟨g, 0, none⟩)) rfl (Or.inl ⟨by rfl, fun w hw => by obtain ⟨z0, z1, z2, z3, z4, z5, z6, z7, z8, z9, z10⟩ := hw; go_simp⟩) hHeld ?_
  simp only [PS]
  refine TK (i := 2) (v := .pointer (some ⟨g, 0, none⟩)) rfl (Or.inl ⟨by rfl, fun w hw => by obtain ⟨z0, z1, z2, z3, z4, z5, z6, z7, z8, z9, z10⟩ := hw; go_simp⟩) hHeld ?_
  simp only [PS]
  refine TK (i := 3) (v := .pointer (some ⟨g, 0, none⟩)) rfl (Or.inl ⟨by rfl, fun w hw => by obtain ⟨z0, z1, z2, z3, z4, z5, z6, z7, z8, z9, z10⟩ := hw; go_simp⟩) hHeld ?_
  simp only [PS]
  refine TK (i := 4) (v := .slice ya 2 yc) rfl (Or.inl ⟨by rfl, fun w hw => by obtain ⟨z0, z1, z2, z3, z4, z5, z6, z7, z8, z9, z10⟩ := hw; go_simp⟩) hHeld ?_
  simp only [PS]
  refine TK (i := 5) (v := .agg #[.int .i64 0, .int .i64 W, .int .i64 S, .int .i64 L, .int .i64 T, .int .i64 H, .int .i64 F, .int .i64 R, .int .i64 (U + 1), .int .i64 O, .slice a rs.length c, .slice ya 2 yc]) rfl (Or.inl ⟨by rfl, fun w hw => by obtain ⟨z0, z1, z2, z3, z4, z5, z6, z7, z8, z9, z10⟩ := hw; go_simp⟩) hHeld ?_
  simp only [PS]
  refine wpAnyH_ready (rs := [6]) (by kernel_rfl) (by simp) ?_
  refine AllReadyH.cons rfl (fun K hK => ?_) AllReadyH.nil
  go_simp
  refine hK.out _ _ (⟨by go_simp, by go_simp, by go_simp, by go_simp, by go_simp, by go_simp, by go_simp, by go_simp, by go_simp, by go_simp, by go_simp⟩) (fun hHd1 => ?_)
  clear hK K
  try simp only [PS]
  refine wpAnyH_done (by kernel_rfl) ?_ _
  go_wp2
  have hyc : ∀ g, blk ya 2 = some g → v0.heap.size ≤ g := fun g hg => by
    unfold blk at hg
    split at hg
    · cases hg
    · cases ya with
      | none => cases hg
      | some ad => simp at hg; subst hg; exact (HW9.out.own.lt ad.block rfl).1
  have hof : OwnS x2 ya (opcells [(false, q + U, formOf 3 L (F + U) ByteArray.empty W), (true, 0, ByteArray.empty)]) := by
    rcases owns_forms HW9.out.own with ⟨_, e2⟩ | ⟨g, cap, e1, _, _, e4⟩
    · simp at e2
    · have e5 : ya = some ⟨g, 0, none⟩ := by injection e1
      subst e5; exact .inr ⟨g, rfl, e4⟩
  refine bodyPost_ret (v := dnV ⟨0, W, S, L, T, H, F, R, U + 1, O, rs, [(false, q + U, formOf 3 L (F + U) ByteArray.empty W), (true, 0, ByteArray.empty)]⟩ a c ya yc) (by simp [results, Tryz.results69, go_sem, dnV, q_bD_0, q_bD_1, q_bD_2, q_bD_3, q_bD_4, q_bD_5, q_bD_6, q_bD_7, q_bD_8, q_bD_9, q_bD_10, q_bD_11]) rfl ⟨ya, yc, rfl, ?_, ?_, ?_⟩
  · refine OwnS.drew' ?_
    iterate 12 (refine OwnS.set' ?_ _ (fun g hg hne => by have := hyc g (by subst hg; exact blk_pos _ _ _ (by omega)); show w.heap.size + 1 ≠ g; omega) _)
    iterate 1 (refine OwnS.set' ?_ _ (fun g hg hne => by have := hyc g (by subst hg; exact blk_pos _ _ _ (by omega)); show w.heap.size ≠ g; omega) _)
    exact hof
  · exact fun g hg => by have := hyc g hg; omega
  · refine Below.drew ?_
    iterate 12 (refine Below.setCell ?_ (by show w.heap.size ≤ w.heap.size + 1; omega) _)
    iterate 1 (refine Below.setCell ?_ (by show w.heap.size ≤ w.heap.size; omega) _)
    exact hE
end Go.Proofs.YtnmaknnnmjfhkagGreatDoor
