import Derived.Test.YtnmaknnnmjfhkafGreatMgXCommit30
import Derived.Test.YtnmaknnnmjfhkafGreatQxCommitMvL
import Derived.Test.YtnmaknnnmjfhkafGreatQxCommitApU
import Derived.Test.YtnmaknnnmjfhkafGreatQxCommitLed
import Derived.Test.YtnmaknnnmjfhkafGreatMgXCommit7
namespace Go.Proofs.YtnmaknnnmjfhkafGreat
open Go.RowKit
set_option linter.unusedVariables false
set_option linter.unusedSimpArgs false
set_option maxRecDepth 8000

set_option maxHeartbeats 4000000 in
theorem left_i (W S L T H F R U O : Int) (a : Option Addr) (n c : Nat) (w : World) (hU : 0 ≤ U) (hU1 : U ≤ 100000) :
    Calls Tryz.prog 50 #[storeV W S L T H F R U O a n c] w fun e w' => e = .returned (.int .i64 (hv S - U)) ∧ Below w.heap.size w w' := by
  have hQ : 0 ≤ hv S ∧ hv S ≤ 99 := by by_cases h : 8 ≤ S ∧ S ≤ 200; have := hv_yes h; omega; rw [hv_no h]; omega
  have HH := hid (fun w' => halves_i S w')
  obtain ⟨Q, HQ⟩ : ∃ Q, Hid (Q = hv S) := ⟨_, hid rfl⟩
  rw [← HQ.out] at hQ HH ⊢
  have hw : IntKind.i64.wrap (Q - U) = Q - U := by simp [IntKind.wrap, IntKind.bits, IntKind.signed]; omega
  unfold storeV
  go_enter Tryz.func50, Tryz.ntmps50
  go_wp2_with fail
  refine wp_region_held_drew (S := fun w' => w'.cell? ⟨w.heap.size, 1, none⟩ = some (.int .i64 S) ∧ w'.cell? ⟨w.heap.size, 7, none⟩ = some (.int .i64 U)) (by kernel_rfl) (⟨by go_simp, by go_simp⟩) (fun hHeld => ?_)
  refine wpAnyH_take (i := 0) (v := .pointer (some ⟨w.heap.size, 1, none⟩)) rfl (by kernel_rfl) (by kernel_rfl) (by kernel_rfl) (fun _ _ _ h => h) (Or.inl ⟨by rfl, fun w hw => by obtain ⟨z0, z1⟩ := hw; go_simp⟩) hHeld ?_
  simp only [Act.put, List.getElem_toArray, List.getElem_cons_zero, List.getElem_cons_succ, List.setIfInBounds_toArray, List.set_cons_zero, List.set_cons_succ]
  refine wpAnyH_take (i := 1) (v := .int .i64 S) rfl (by kernel_rfl) (by kernel_rfl) (by kernel_rfl) (fun _ _ _ h => h) (Or.inl ⟨by rfl, fun w hw => by obtain ⟨z0, z1⟩ := hw; go_simp⟩) hHeld ?_
  simp only [Act.put, List.getElem_toArray, List.getElem_cons_zero, List.getElem_cons_succ, List.setIfInBounds_toArray, List.set_cons_zero, List.set_cons_succ]
  refine wpAnyH_take (i := 3) (v := .pointer (some ⟨w.heap.size, 7, none⟩)) rfl (by kernel_rfl) (by kernel_rfl) (by kernel_rfl) (fun _ _ _ h => h) (Or.inl ⟨by rfl, fun w hw => by obtain ⟨z0, z1⟩ := hw; go_simp⟩) hHeld ?_
  simp only [Act.put, List.getElem_toArray, List.getElem_cons_zero, List.getElem_cons_succ, List.setIfInBounds_toArray, List.set_cons_zero, List.set_cons_succ]
  refine wpAnyH_take (i := 4) (v := .int .i64 U) rfl (by kernel_rfl) (by kernel_rfl) (by kernel_rfl) (fun _ _ _ h => h) (Or.inl ⟨by rfl, fun w hw => by obtain ⟨z0, z1⟩ := hw; go_simp⟩) hHeld ?_
  simp only [Act.put, List.getElem_toArray, List.getElem_cons_zero, List.getElem_cons_succ, List.setIfInBounds_toArray, List.set_cons_zero, List.set_cons_succ]
  refine wpAnyH_ready (rs := [2]) (by kernel_rfl) (by simp) ?_
  refine AllReadyH.cons rfl (fun K hK => ?_) AllReadyH.nil
  refine step_call (by rfl) 67 #[.int .i64 S] (by go_simp) (HH.out _) ?_
  rintro e wz ⟨rfl, rfl⟩
  refine ⟨_, rfl, ?_⟩
  refine hK.out _ _ hHeld (fun _ => ?_)
  clear hK K
  try simp only [Act.put, List.getElem_toArray, List.getElem_cons_zero, List.getElem_cons_succ, List.setIfInBounds_toArray, List.set_cons_zero, List.set_cons_succ]
  refine wpAnyH_take (i := 5) (v := .int .i64 (Q - U)) rfl (by kernel_rfl) (by kernel_rfl) (by kernel_rfl) (fun _ _ _ h => h) (Or.inl ⟨by rfl, fun w hw => by obtain ⟨z0, z1⟩ := hw; go_simp⟩) hHeld ?_
  simp only [Act.put, List.getElem_toArray, List.getElem_cons_zero, List.getElem_cons_succ, List.setIfInBounds_toArray, List.set_cons_zero, List.set_cons_succ]
  refine wpAnyH_ready (rs := [6]) (by kernel_rfl) (by simp) ?_
  refine AllReadyH.cons rfl (fun K hK => ?_) AllReadyH.nil
  go_simp
  refine hK.out _ _ hHeld (fun _ => ?_)
  clear hK K
  try simp only [Act.put, List.getElem_toArray, List.getElem_cons_zero, List.getElem_cons_succ, List.setIfInBounds_toArray, List.set_cons_zero, List.set_cons_succ]
  refine wpAnyH_done (by kernel_rfl) ?_ _
  go_wp2
  go_ret
  exact ⟨rfl, ((Below.refl _ _).alloc (Nat.le_refl _) _).drew⟩
set_option maxHeartbeats 16000000 in
theorem commit_i (W S L T H F R U O : Int) (a : Option Addr) (rs : List Pr) (c : Nat) (a2 : Option Addr) (b : List Ch) (c2 : Nat) (w : World) (h : Prs w a rs) (hc : rs.length ≤ c) (hl : rs.length ≤ 1048576) (hs : ∀ x ∈ rs, x.1.size ≤ 1048576 ∧ x.2.size ≤ 1048576) (h2 : Chs w a2 b) (hl2 : b.length ≤ 1048576) (hs2 : ∀ x ∈ b, x.1.size ≤ 1048576 ∧ x.2.1.size ≤ 1048576) :
    Calls Tryz.prog 17 #[storeV W S L T H F R U O a rs.length c, .slice a2 b.length c2] w fun x w' => DnPost w w' x (commitD W S L T H F R U O rs b) := by
  have HVS := hid (fun w' h' => vstore_i W S L T H F R U O a rs c w' h' hc hl hs)
  have HVB := hid (fun w' h' => vbatch_i a2 b c2 w' h' hl2 hs2)
  have HAP := hid (fun w' h' h'' => apply_i a rs c a2 b c2 w' h' hl hs h'' hl2 hs2)
  unfold ApPost stV at HAP
  have hAl := apR_len rs b
  have HAM := hid (apR_mem rs b (fun x => x.1.size ≤ 1048576 ∧ x.2.size ≤ 1048576) hs hs2)
  unfold storeV at HVS ⊢
  unfold commitD
  obtain ⟨A1, HA1⟩ : ∃ A1, Hid (A1 = apR rs b) := ⟨_, hid rfl⟩
  obtain ⟨C1, HC1⟩ : ∃ C1, Hid (C1 = apC rs b) := ⟨_, hid rfl⟩
  rw [← HA1.out] at hAl HAM
  rw [← HA1.out, ← HC1.out] at HAP ⊢
  cases hok : storeOk W S L T H F R U O rs with
  | false =>
    rw [hok] at HVS
    simp only [Bool.false_and, Bool.false_eq_true, if_false]
    go_enter Tryz.func17, Tryz.ntmps17
    go_wp2_with fail
    obtain ⟨v0, e0⟩ : ∃ x, x = (w.alloc (.cells #[.int .i64 W, .int .i64 S, .int .i64 L, .int .i64 T, .int .i64 H, .int .i64 F, .int .i64 R, .int .i64 U, .int .i64 O, .slice a rs.length c] 35)).alloc (.cells #[.int .i64 0, .int .i64 0, .int .i64 0, .int .i64 0, .int .i64 0, .int .i64 0, .int .i64 0, .int .i64 0, .int .i64 0, .int .i64 0, .slice none 0 0, .slice none 0 0] 38) := ⟨_, rfl⟩
    have hE : Below w.heap.size w v0 := by rw [e0]; exact ((Below.refl _ _).alloc (Nat.le_refl _) _).alloc (by simp) _
    have s_v0 : w.heap.size + 1 + 1 ≤ v0.heap.size := by rw [e0]; simp
    have bS : Dep v0 w.heap.size (w.heap.size + 1) (fun W' => Row W' w.heap.size [.int .i64 W, .int .i64 S, .int .i64 L, .int .i64 T, .int .i64 H, .int .i64 F, .int .i64 R, .int .i64 U, .int .i64 O, .slice a rs.length c]) := by rw [e0]; exact (dep_box w _ _).below ((Below.refl _ _).alloc (Nat.le_refl _) _)
    have bD : Dep v0 (w.heap.size + 1) (w.heap.size + 1 + 1) (fun W' => Row W' (w.heap.size + 1) [.int .i64 0, .int .i64 0, .int .i64 0, .int .i64 0, .int .i64 0, .int .i64 0, .int .i64 0, .int .i64 0, .int .i64 0, .int .i64 0, .slice none 0 0, .slice none 0 0]) := by rw [e0]; exact dep_row (row_at (w := w.alloc _) (by simp)) (Nat.le_refl _) (by omega) (by simp)
    rw [← e0]
    clear e0
    refine (HVS.out _ (h.below hE)).mono ?_
    rintro e v1 ⟨rfl, hb⟩
    have s_v1 : v0.heap.size ≤ v1.heap.size := hb.size
    have n_bS := bS.below hb
    clear bS
    have bS := n_bS
    clear n_bS
    have n_bD := bD.below hb
    clear bD
    have bD := n_bD
    clear n_bD
    have n_hE := hE.trans (hb.mono hE.size)
    clear hE
    have hE := n_hE
    clear n_hE
    clear hb
    have q_bD_0 := bD.now.cell 0 _ rfl
    have f_bD_0 := bD.now.froz 0 (by simp)
    have q_bD_1 := bD.now.cell 1 _ rfl
    have f_bD_1 := bD.now.froz 1 (by simp)
    have q_bD_2 := bD.now.cell 2 _ rfl
    have f_bD_2 := bD.now.froz 2 (by simp)
    have q_bD_3 := bD.now.cell 3 _ rfl
    have f_bD_3 := bD.now.froz 3 (by simp)
    have q_bD_4 := bD.now.cell 4 _ rfl
    have f_bD_4 := bD.now.froz 4 (by simp)
    have q_bD_5 := bD.now.cell 5 _ rfl
    have f_bD_5 := bD.now.froz 5 (by simp)
    have q_bD_6 := bD.now.cell 6 _ rfl
    have f_bD_6 := bD.now.froz 6 (by simp)
    have q_bD_7 := bD.now.cell 7 _ rfl
    have f_bD_7 := bD.now.froz 7 (by simp)
    have q_bD_8 := bD.now.cell 8 _ rfl
    have f_bD_8 := bD.now.froz 8 (by simp)
    have q_bD_9 := bD.now.cell 9 _ rfl
    have f_bD_9 := bD.now.froz 9 (by simp)
    have q_bD_10 := bD.now.cell 10 _ rfl
    have f_bD_10 := bD.now.froz 10 (by simp)
    have q_bD_11 := bD.now.cell 11 _ rfl
    have f_bD_11 := bD.now.froz 11 (by simp)
    have q_bD_l := bD.now.lt
    go_wp2_with fail
    refine bodyPost_ret (v := dnV (noD 1) none 0 none 0) (by simp [results, Tryz.results17, go_sem, dnV, noD, q_bD_l, q_bD_0, q_bD_1, q_bD_2, q_bD_3, q_bD_4, q_bD_5, q_bD_6, q_bD_7, q_bD_8, q_bD_9, q_bD_10, q_bD_11]) rfl (dn_no rfl ?_)
    iterate 12 (refine Below.setCell ?_ (by show w.heap.size ≤ w.heap.size + 1; omega) _)
    exact hE
  | true =>
    rw [hok] at HVS
    simp only [Bool.true_and]
    cases hokb : batchOk b with
    | false =>
      rw [hokb] at HVB
      simp only [Bool.false_eq_true, if_false]
      go_enter Tryz.func17, Tryz.ntmps17
      go_wp2_with fail
      obtain ⟨v0, e0⟩ : ∃ x, x = (w.alloc (.cells #[.int .i64 W, .int .i64 S, .int .i64 L, .int .i64 T, .int .i64 H, .int .i64 F, .int .i64 R, .int .i64 U, .int .i64 O, .slice a rs.length c] 35)).alloc (.cells #[.int .i64 0, .int .i64 0, .int .i64 0, .int .i64 0, .int .i64 0, .int .i64 0, .int .i64 0, .int .i64 0, .int .i64 0, .int .i64 0, .slice none 0 0, .slice none 0 0] 38) := ⟨_, rfl⟩
      have hE : Below w.heap.size w v0 := by rw [e0]; exact ((Below.refl _ _).alloc (Nat.le_refl _) _).alloc (by simp) _
      have s_v0 : w.heap.size + 1 + 1 ≤ v0.heap.size := by rw [e0]; simp
      have bS : Dep v0 w.heap.size (w.heap.size + 1) (fun W' => Row W' w.heap.size [.int .i64 W, .int .i64 S, .int .i64 L, .int .i64 T, .int .i64 H, .int .i64 F, .int .i64 R, .int .i64 U, .int .i64 O, .slice a rs.length c]) := by rw [e0]; exact (dep_box w _ _).below ((Below.refl _ _).alloc (Nat.le_refl _) _)
      have bD : Dep v0 (w.heap.size + 1) (w.heap.size + 1 + 1) (fun W' => Row W' (w.heap.size + 1) [.int .i64 0, .int .i64 0, .int .i64 0, .int .i64 0, .int .i64 0, .int .i64 0, .int .i64 0, .int .i64 0, .int .i64 0, .int .i64 0, .slice none 0 0, .slice none 0 0]) := by rw [e0]; exact dep_row (row_at (w := w.alloc _) (by simp)) (Nat.le_refl _) (by omega) (by simp)
      rw [← e0]
      clear e0
      refine (HVS.out _ (h.below hE)).mono ?_
      rintro e v1 ⟨rfl, hb⟩
      have s_v1 : v0.heap.size ≤ v1.heap.size := hb.size
      have n_bS := bS.below hb
      clear bS
      have bS := n_bS
      clear n_bS
      have n_bD := bD.below hb
      clear bD
      have bD := n_bD
      clear n_bD
      have n_hE := hE.trans (hb.mono hE.size)
      clear hE
      have hE := n_hE
      clear n_hE
      clear hb
      go_wp2_with fail
      refine (HVB.out _ (h2.below hE)).mono ?_
      rintro e v2 ⟨rfl, hb⟩
      have s_v2 : v1.heap.size ≤ v2.heap.size := hb.size
      have n_bS := bS.below hb
      clear bS
      have bS := n_bS
      clear n_bS
      have n_bD := bD.below hb
      clear bD
      have bD := n_bD
      clear n_bD
      have n_hE := hE.trans (hb.mono hE.size)
      clear hE
      have hE := n_hE
      clear n_hE
      clear hb
      have q_bD_0 := bD.now.cell 0 _ rfl
      have f_bD_0 := bD.now.froz 0 (by simp)
      have q_bD_1 := bD.now.cell 1 _ rfl
      have f_bD_1 := bD.now.froz 1 (by simp)
      have q_bD_2 := bD.now.cell 2 _ rfl
      have f_bD_2 := bD.now.froz 2 (by simp)
      have q_bD_3 := bD.now.cell 3 _ rfl
      have f_bD_3 := bD.now.froz 3 (by simp)
      have q_bD_4 := bD.now.cell 4 _ rfl
      have f_bD_4 := bD.now.froz 4 (by simp)
      have q_bD_5 := bD.now.cell 5 _ rfl
      have f_bD_5 := bD.now.froz 5 (by simp)
      have q_bD_6 := bD.now.cell 6 _ rfl
      have f_bD_6 := bD.now.froz 6 (by simp)
      have q_bD_7 := bD.now.cell 7 _ rfl
      have f_bD_7 := bD.now.froz 7 (by simp)
      have q_bD_8 := bD.now.cell 8 _ rfl
      have f_bD_8 := bD.now.froz 8 (by simp)
      have q_bD_9 := bD.now.cell 9 _ rfl
      have f_bD_9 := bD.now.froz 9 (by simp)
      have q_bD_10 := bD.now.cell 10 _ rfl
      have f_bD_10 := bD.now.froz 10 (by simp)
      have q_bD_11 := bD.now.cell 11 _ rfl
      have f_bD_11 := bD.now.froz 11 (by simp)
      have q_bD_l := bD.now.lt
      go_wp2_with fail
      refine bodyPost_ret (v := dnV (noD 1) none 0 none 0) (by simp [results, Tryz.results17, go_sem, dnV, noD, q_bD_l, q_bD_0, q_bD_1, q_bD_2, q_bD_3, q_bD_4, q_bD_5, q_bD_6, q_bD_7, q_bD_8, q_bD_9, q_bD_10, q_bD_11]) rfl (dn_no rfl ?_)
      iterate 12 (refine Below.setCell ?_ (by show w.heap.size ≤ w.heap.size + 1; omega) _)
      exact hE
    | true =>
      rw [hokb] at HVB
      simp only [if_true]
      obtain ⟨hW, hS, hLL, hT, hH, hF, hU, hO, _⟩ := storeOk_of hok
      have hQ := hv_yes hS
      clear hok hokb
      obtain ⟨n, rfl⟩ : ∃ n : Nat, W = (n : Int) := ⟨W.toNat, by omega⟩
      have en : (n : Int).toNat = n := by omega
      rw [en]
      obtain ⟨m, hm⟩ : ∃ m, m = 56 - n := ⟨_, rfl⟩
      rw [← hm]
      have hnm : n + m = 56 := by omega
      clear en hm
      have HF := hid (fun w' h' => formbatch_i a2 b c2 w' h' hl2 hs2)
      have hbo := bOut_bound b
      have HPG := hid (fun w' => pages_i (bOut b) (n : Int) w' (by omega))
      have hnp := npages_tight (bOut b).size (n : Int) (by omega) (by omega)
      have hcl := cutAll_len' (bOut b) L (F + U) n m hnm (by omega) (by omega) hLL (by omega)
      have HRM := hid (fun a' c' w' h' hc' => hasroom_i (n : Int) S L T H F R U O a' A1 c' w' h' hc' (by omega) HAM.out)
      have HLF := hid (fun a' c' w' => left_i (n : Int) S L T H F R U O a' A1.length c' w' hU.1 (by omega))
      have HWO := hid (fun a' c' w' => writer_of (n : Int) S L T H F R U O a' A1.length c' w' hH.1 hH.2 hF.1 hF.2 hU.1 (by omega))
      have HEN := hid (fun base g v os w' hW hb hos => entry_i base g v os (2 + H * hv S + U) (F + U) L n m (bOut b) w' hW hb (by omega) hos hnm (by omega) (by omega) (by have : 0 ≤ H * hv S := Int.mul_nonneg hH.1 (by omega); omega) (by rcases (show H = 0 ∨ H = 1 by omega) with e | e <;> subst e <;> omega) (by omega) (by omega))
      unfold storeV at HRM HLF HWO
      obtain ⟨Q, HQ⟩ : ∃ Q, Hid (Q = hv S) := ⟨_, hid rfl⟩
      obtain ⟨N, HN⟩ : ∃ N, Hid (N = npages (bOut b).size (n : Int)) := ⟨_, hid rfl⟩
      obtain ⟨bo, hbo1⟩ : ∃ bo, bo = bOut b := ⟨_, rfl⟩
      obtain ⟨cut, hcut⟩ : ∃ cut, cut = cutAll (bOut b) L (F + U) n m := ⟨_, rfl⟩
      have hcl' : (cut.length : Int) = N := by rw [hcut, HN.out]; exact hcl (by omega)
      rw [← hcut] at HEN ⊢
      rw [← hbo1] at HF HPG HEN hbo hnp
      rw [← hbo1] at HN
      rw [← HN.out] at hnp HPG
      rw [← HQ.out] at hQ hU HRM HLF HWO HEN ⊢
      rw [← hbo1, ← HN.out]
      clear hcl hcut hbo1
      obtain ⟨q, hq⟩ : ∃ q, q = 2 + H * Q := ⟨_, rfl⟩
      have hqb : 2 ≤ q ∧ q ≤ 101 := by
        rcases (show H = 0 ∨ H = 1 by omega) with e | e
        · subst e; omega
        · subst e; omega
      rw [← hq] at HWO HEN ⊢
      clear hq
      obtain ⟨r, HRR⟩ : ∃ r, Hid (r = roomOf (snapOf A1) (n : Int)) := ⟨_, hid rfl⟩
      rw [← HRR.out] at HRM ⊢
      obtain ⟨D, HD⟩ : ∃ D, Hid (D = if C1 = 0 then if r ≤ Q - 1 then if N ≤ Q - U then (⟨0, (n : Int), S, L, T, H, F, R, U + N, O + N, A1, putOps (q + U) cut⟩ : Dd) else noD 4 else noD 3 else noD 2) := ⟨_, hid rfl⟩
      rw [← HD.out]
      have hw1 : IntKind.i64.wrap (U + N) = U + N := by simp [IntKind.wrap, IntKind.bits, IntKind.signed]; omega
      have hw2 : IntKind.i64.wrap (O + N) = O + N := by simp [IntKind.wrap, IntKind.bits, IntKind.signed]; omega
      go_enter Tryz.func17, Tryz.ntmps17
      go_wp2_with fail
      obtain ⟨v0, e0⟩ : ∃ x, x = (w.alloc (.cells #[.int .i64 (n : Int), .int .i64 S, .int .i64 L, .int .i64 T, .int .i64 H, .int .i64 F, .int .i64 R, .int .i64 U, .int .i64 O, .slice a rs.length c] 35)).alloc (.cells #[.int .i64 0, .int .i64 0, .int .i64 0, .int .i64 0, .int .i64 0, .int .i64 0, .int .i64 0, .int .i64 0, .int .i64 0, .int .i64 0, .slice none 0 0, .slice none 0 0] 38) := ⟨_, rfl⟩
      have hE : Below w.heap.size w v0 := by rw [e0]; exact ((Below.refl _ _).alloc (Nat.le_refl _) _).alloc (by simp) _
      have s_v0 : w.heap.size + 1 + 1 ≤ v0.heap.size := by rw [e0]; simp
      have bS : Dep v0 w.heap.size (w.heap.size + 1) (fun W' => Row W' w.heap.size [.int .i64 (n : Int), .int .i64 S, .int .i64 L, .int .i64 T, .int .i64 H, .int .i64 F, .int .i64 R, .int .i64 U, .int .i64 O, .slice a rs.length c]) := by rw [e0]; exact (dep_box w _ _).below ((Below.refl _ _).alloc (Nat.le_refl _) _)
      have bD : Dep v0 (w.heap.size + 1) (w.heap.size + 1 + 1) (fun W' => Row W' (w.heap.size + 1) [.int .i64 0, .int .i64 0, .int .i64 0, .int .i64 0, .int .i64 0, .int .i64 0, .int .i64 0, .int .i64 0, .int .i64 0, .int .i64 0, .slice none 0 0, .slice none 0 0]) := by rw [e0]; exact dep_row (row_at (w := w.alloc _) (by simp)) (Nat.le_refl _) (by omega) (by simp)
      rw [← e0]
      clear e0
      refine (HVS.out _ (h.below hE)).mono ?_
      rintro e v1 ⟨rfl, hb⟩
      have s_v1 : v0.heap.size ≤ v1.heap.size := hb.size
      have n_bS := bS.below hb
      clear bS
      have bS := n_bS
      clear n_bS
      have n_bD := bD.below hb
      clear bD
      have bD := n_bD
      clear n_bD
      have n_hE := hE.trans (hb.mono hE.size)
      clear hE
      have hE := n_hE
      clear n_hE
      clear hb
      go_wp2_with fail
      refine (HVB.out _ (h2.below hE)).mono ?_
      rintro e v2 ⟨rfl, hb⟩
      have s_v2 : v1.heap.size ≤ v2.heap.size := hb.size
      have n_bS := bS.below hb
      clear bS
      have bS := n_bS
      clear n_bS
      have n_bD := bD.below hb
      clear bD
      have bD := n_bD
      clear n_bD
      have n_hE := hE.trans (hb.mono hE.size)
      clear hE
      have hE := n_hE
      clear n_hE
      clear hb
      have q_bS_0 := bS.now.cell 0 _ rfl
      have q_bS_1 := bS.now.cell 1 _ rfl
      have q_bS_2 := bS.now.cell 2 _ rfl
      have q_bS_3 := bS.now.cell 3 _ rfl
      have q_bS_4 := bS.now.cell 4 _ rfl
      have q_bS_5 := bS.now.cell 5 _ rfl
      have q_bS_6 := bS.now.cell 6 _ rfl
      have q_bS_7 := bS.now.cell 7 _ rfl
      have q_bS_8 := bS.now.cell 8 _ rfl
      have q_bS_9 := bS.now.cell 9 _ rfl
      have q_bS_l := bS.now.lt
      go_wp2_with fail
      clear q_bS_0 q_bS_1 q_bS_2 q_bS_3 q_bS_4 q_bS_5 q_bS_6 q_bS_7 q_bS_8 q_bS_9 q_bS_l
      refine (HAP.out _ (h.below hE) (h2.below hE)).mono ?_
      rintro e v3 ⟨a5, c5, rfl, hc5, ho, hg, hb⟩
      have s_v3 : v2.heap.size ≤ v3.heap.size := hb.size
      have n_bS := bS.below hb
      clear bS
      have bS := n_bS
      clear n_bS
      have n_bD := bD.below hb
      clear bD
      have bD := n_bD
      clear n_bD
      have n_hE := hE.trans (hb.mono hE.size)
      clear hE
      have hE := n_hE
      clear n_hE
      have dA : Dep v3 v2.heap.size v3.heap.size (fun W => OwnS W a5 (prcells A1)) := dep_own ho prcells_neA hg
      have lo5 : ∀ g, blk a5 A1.length = some g → v2.heap.size ≤ g ∧ g < v3.heap.size := fun g hg' => ⟨hg g hg', ho.lt _ (fun h e => h (by have := congrArg List.length e; rw [prcells_length, List.length_nil] at this; omega)) g hg'⟩
      clear ho hg
      clear hb
      by_cases hC : C1 = 0
      case neg =>
        have q_bD_0 := bD.now.cell 0 _ rfl
        have f_bD_0 := bD.now.froz 0 (by simp)
        have q_bD_1 := bD.now.cell 1 _ rfl
        have f_bD_1 := bD.now.froz 1 (by simp)
        have q_bD_2 := bD.now.cell 2 _ rfl
        have f_bD_2 := bD.now.froz 2 (by simp)
        have q_bD_3 := bD.now.cell 3 _ rfl
        have f_bD_3 := bD.now.froz 3 (by simp)
        have q_bD_4 := bD.now.cell 4 _ rfl
        have f_bD_4 := bD.now.froz 4 (by simp)
        have q_bD_5 := bD.now.cell 5 _ rfl
        have f_bD_5 := bD.now.froz 5 (by simp)
        have q_bD_6 := bD.now.cell 6 _ rfl
        have f_bD_6 := bD.now.froz 6 (by simp)
        have q_bD_7 := bD.now.cell 7 _ rfl
        have f_bD_7 := bD.now.froz 7 (by simp)
        have q_bD_8 := bD.now.cell 8 _ rfl
        have f_bD_8 := bD.now.froz 8 (by simp)
        have q_bD_9 := bD.now.cell 9 _ rfl
        have f_bD_9 := bD.now.froz 9 (by simp)
        have q_bD_10 := bD.now.cell 10 _ rfl
        have f_bD_10 := bD.now.froz 10 (by simp)
        have q_bD_11 := bD.now.cell 11 _ rfl
        have f_bD_11 := bD.now.froz 11 (by simp)
        have q_bD_l := bD.now.lt
        go_wp2_with fail
        rw [show D = noD 2 by rw [HD.out, if_neg hC]]
        refine bodyPost_ret (v := dnV (noD 2) none 0 none 0) (by simp [results, Tryz.results17, go_sem, dnV, noD, q_bD_l, q_bD_0, q_bD_1, q_bD_2, q_bD_3, q_bD_4, q_bD_5, q_bD_6, q_bD_7, q_bD_8, q_bD_9, q_bD_10, q_bD_11]) rfl (dn_no rfl ?_)
        refine (fun hbz => Below.alloc hbz (Below.size hbz) _) ?_
        iterate 12 (refine Below.setCell ?_ (by show w.heap.size ≤ w.heap.size + 1; omega) _)
        exact hE
      subst hC
      have q_bS_0 := bS.now.cell 0 _ rfl
      have f_bS_0 := bS.now.froz 0 (by simp)
      have q_bS_1 := bS.now.cell 1 _ rfl
      have f_bS_1 := bS.now.froz 1 (by simp)
      have q_bS_2 := bS.now.cell 2 _ rfl
      have f_bS_2 := bS.now.froz 2 (by simp)
      have q_bS_3 := bS.now.cell 3 _ rfl
      have f_bS_3 := bS.now.froz 3 (by simp)
      have q_bS_4 := bS.now.cell 4 _ rfl
      have f_bS_4 := bS.now.froz 4 (by simp)
      have q_bS_5 := bS.now.cell 5 _ rfl
      have f_bS_5 := bS.now.froz 5 (by simp)
      have q_bS_6 := bS.now.cell 6 _ rfl
      have f_bS_6 := bS.now.froz 6 (by simp)
      have q_bS_7 := bS.now.cell 7 _ rfl
      have f_bS_7 := bS.now.froz 7 (by simp)
      have q_bS_8 := bS.now.cell 8 _ rfl
      have f_bS_8 := bS.now.froz 8 (by simp)
      have q_bS_9 := bS.now.cell 9 _ rfl
      have f_bS_9 := bS.now.froz 9 (by simp)
      have q_bS_l := bS.now.lt
      go_wp2_with fail
      clear q_bS_0 f_bS_0 q_bS_1 f_bS_1 q_bS_2 f_bS_2 q_bS_3 f_bS_3 q_bS_4 f_bS_4 q_bS_5 f_bS_5 q_bS_6 f_bS_6 q_bS_7 f_bS_7 q_bS_8 f_bS_8 q_bS_9 f_bS_9 q_bS_l
      obtain ⟨v4, e4⟩ : ∃ x, x = (v3.setCell ⟨w.heap.size, 9, none⟩ (.slice a5 A1.length c5)).alloc (.cells #[.slice a5 A1.length c5] 33) := ⟨_, rfl⟩
      have s_v4 : v3.heap.size + 1 ≤ v4.heap.size := by rw [e4]; simp [World.setCell]
      have hgw : v3.grownBy v4 (some w.heap.size) := by rw [e4]; exact grown_trans' (w1 := v3.setCell ⟨w.heap.size, 9, none⟩ (.slice a5 A1.length c5)) ⟨rfl, rfl, rfl, by simp [World.setCell], fun k _ hk => Below.heap_setCell _ _ _ k (fun e => hk (by rw [e]))⟩ (World.grownBy_alloc _ _ _)
      have bS' : Dep v4 w.heap.size (w.heap.size + 1) (fun W' => Row W' w.heap.size [.int .i64 (n : Int), .int .i64 S, .int .i64 L, .int .i64 T, .int .i64 H, .int .i64 F, .int .i64 R, .int .i64 U, .int .i64 O, .slice a5 A1.length c5]) := by
        have := bS.now.set 9 (by simp) (.slice a5 A1.length c5)
        simp only [List.set_cons_zero, List.set_cons_succ] at this
        refine dep_row ?_ (Nat.le_refl _) (by omega) (by omega)
        rw [e4]; exact this.alloc _
      have bD' := bD.grown hgw (fun g hg => by cases hg; left; omega)
      have dA' := dA.grown hgw (fun g hg => by cases hg; left; omega)
      have hE' := hE.trans (below_of_grown hgw hE.size (fun g hg => by cases hg; exact Nat.le_refl _))
      rw [← e4]
      clear e4 hgw bS bD dA hE
      have bS := bS'
      clear bS'
      have bD := bD'
      clear bD'
      have dA := dA'
      clear dA'
      have hE := hE'
      clear hE'
      refine (HF.out _ (h2.below hE)).mono ?_
      rintro e v5 ⟨rfl, hb⟩
      have s_v5 : v4.heap.size ≤ v5.heap.size := hb.size
      have n_bS := bS.below hb
      clear bS
      have bS := n_bS
      clear n_bS
      have n_bD := bD.below hb
      clear bD
      have bD := n_bD
      clear n_bD
      have n_dA := dA.below hb
      clear dA
      have dA := n_dA
      clear n_dA
      have n_hE := hE.trans (hb.mono hE.size)
      clear hE
      have hE := n_hE
      clear n_hE
      clear hb
      have q_bS_0 := bS.now.cell 0 _ rfl
      have q_bS_1 := bS.now.cell 1 _ rfl
      have q_bS_2 := bS.now.cell 2 _ rfl
      have q_bS_3 := bS.now.cell 3 _ rfl
      have q_bS_4 := bS.now.cell 4 _ rfl
      have q_bS_5 := bS.now.cell 5 _ rfl
      have q_bS_6 := bS.now.cell 6 _ rfl
      have q_bS_7 := bS.now.cell 7 _ rfl
      have q_bS_8 := bS.now.cell 8 _ rfl
      have q_bS_9 := bS.now.cell 9 _ rfl
      have q_bS_l := bS.now.lt
      go_wp2_with fail
      clear q_bS_0 q_bS_1 q_bS_2 q_bS_3 q_bS_4 q_bS_5 q_bS_6 q_bS_7 q_bS_8 q_bS_9 q_bS_l
      refine (HPG.out _).mono ?_
      rintro e v6 ⟨rfl, hb⟩
      have s_v6 : v5.heap.size ≤ v6.heap.size := hb.size
      have n_bS := bS.below hb
      clear bS
      have bS := n_bS
      clear n_bS
      have n_bD := bD.below hb
      clear bD
      have bD := n_bD
      clear n_bD
      have n_dA := dA.below hb
      clear dA
      have dA := n_dA
      clear n_dA
      have n_hE := hE.trans (hb.mono hE.size)
      clear hE
      have hE := n_hE
      clear n_hE
      clear hb
      have q_bS_0 := bS.now.cell 0 _ rfl
      have q_bS_1 := bS.now.cell 1 _ rfl
      have q_bS_2 := bS.now.cell 2 _ rfl
      have q_bS_3 := bS.now.cell 3 _ rfl
      have q_bS_4 := bS.now.cell 4 _ rfl
      have q_bS_5 := bS.now.cell 5 _ rfl
      have q_bS_6 := bS.now.cell 6 _ rfl
      have q_bS_7 := bS.now.cell 7 _ rfl
      have q_bS_8 := bS.now.cell 8 _ rfl
      have q_bS_9 := bS.now.cell 9 _ rfl
      have q_bS_l := bS.now.lt
      go_wp2_with fail
      clear q_bS_0 q_bS_1 q_bS_2 q_bS_3 q_bS_4 q_bS_5 q_bS_6 q_bS_7 q_bS_8 q_bS_9 q_bS_l
      refine (HRM.out _ _ _ dA.now.prsA hc5).mono ?_
      rintro e v7 ⟨rfl, hb⟩
      have s_v7 : v6.heap.size ≤ v7.heap.size := hb.size
      have n_bS := bS.below hb
      clear bS
      have bS := n_bS
      clear n_bS
      have n_bD := bD.below hb
      clear bD
      have bD := n_bD
      clear n_bD
      have n_dA := dA.below hb
      clear dA
      have dA := n_dA
      clear n_dA
      have n_hE := hE.trans (hb.mono hE.size)
      clear hE
      have hE := n_hE
      clear n_hE
      clear hb
      by_cases hr : r ≤ Q - 1
      case neg =>
        rw [decide_eq_false hr]
        have q_bD_0 := bD.now.cell 0 _ rfl
        have f_bD_0 := bD.now.froz 0 (by simp)
        have q_bD_1 := bD.now.cell 1 _ rfl
        have f_bD_1 := bD.now.froz 1 (by simp)
        have q_bD_2 := bD.now.cell 2 _ rfl
        have f_bD_2 := bD.now.froz 2 (by simp)
        have q_bD_3 := bD.now.cell 3 _ rfl
        have f_bD_3 := bD.now.froz 3 (by simp)
        have q_bD_4 := bD.now.cell 4 _ rfl
        have f_bD_4 := bD.now.froz 4 (by simp)
        have q_bD_5 := bD.now.cell 5 _ rfl
        have f_bD_5 := bD.now.froz 5 (by simp)
        have q_bD_6 := bD.now.cell 6 _ rfl
        have f_bD_6 := bD.now.froz 6 (by simp)
        have q_bD_7 := bD.now.cell 7 _ rfl
        have f_bD_7 := bD.now.froz 7 (by simp)
        have q_bD_8 := bD.now.cell 8 _ rfl
        have f_bD_8 := bD.now.froz 8 (by simp)
        have q_bD_9 := bD.now.cell 9 _ rfl
        have f_bD_9 := bD.now.froz 9 (by simp)
        have q_bD_10 := bD.now.cell 10 _ rfl
        have f_bD_10 := bD.now.froz 10 (by simp)
        have q_bD_11 := bD.now.cell 11 _ rfl
        have f_bD_11 := bD.now.froz 11 (by simp)
        have q_bD_l := bD.now.lt
        go_wp2_with fail
        rw [show D = noD 3 by rw [HD.out, if_pos trivial, if_neg (by omega)]]
        refine bodyPost_ret (v := dnV (noD 3) none 0 none 0) (by simp [results, Tryz.results17, go_sem, dnV, noD, q_bD_l, q_bD_0, q_bD_1, q_bD_2, q_bD_3, q_bD_4, q_bD_5, q_bD_6, q_bD_7, q_bD_8, q_bD_9, q_bD_10, q_bD_11]) rfl (dn_no rfl ?_)
        iterate 12 (refine Below.setCell ?_ (by show w.heap.size ≤ w.heap.size + 1; omega) _)
        exact hE
      rw [decide_eq_true hr]
      have q_bS_0 := bS.now.cell 0 _ rfl
      have q_bS_1 := bS.now.cell 1 _ rfl
      have q_bS_2 := bS.now.cell 2 _ rfl
      have q_bS_3 := bS.now.cell 3 _ rfl
      have q_bS_4 := bS.now.cell 4 _ rfl
      have q_bS_5 := bS.now.cell 5 _ rfl
      have q_bS_6 := bS.now.cell 6 _ rfl
      have q_bS_7 := bS.now.cell 7 _ rfl
      have q_bS_8 := bS.now.cell 8 _ rfl
      have q_bS_9 := bS.now.cell 9 _ rfl
      have q_bS_l := bS.now.lt
      go_wp2_with fail
      clear q_bS_0 q_bS_1 q_bS_2 q_bS_3 q_bS_4 q_bS_5 q_bS_6 q_bS_7 q_bS_8 q_bS_9 q_bS_l
      refine (HLF.out _ _ _).mono ?_
      rintro e v8 ⟨rfl, hb⟩
      have s_v8 : v7.heap.size ≤ v8.heap.size := hb.size
      have n_bS := bS.below hb
      clear bS
      have bS := n_bS
      clear n_bS
      have n_bD := bD.below hb
      clear bD
      have bD := n_bD
      clear n_bD
      have n_dA := dA.below hb
      clear dA
      have dA := n_dA
      clear n_dA
      have n_hE := hE.trans (hb.mono hE.size)
      clear hE
      have hE := n_hE
      clear n_hE
      clear hb
      by_cases hp : N ≤ Q - U
      case neg =>
        have hp' : Q - U < N := by omega
        have q_bD_0 := bD.now.cell 0 _ rfl
        have f_bD_0 := bD.now.froz 0 (by simp)
        have q_bD_1 := bD.now.cell 1 _ rfl
        have f_bD_1 := bD.now.froz 1 (by simp)
        have q_bD_2 := bD.now.cell 2 _ rfl
        have f_bD_2 := bD.now.froz 2 (by simp)
        have q_bD_3 := bD.now.cell 3 _ rfl
        have f_bD_3 := bD.now.froz 3 (by simp)
        have q_bD_4 := bD.now.cell 4 _ rfl
        have f_bD_4 := bD.now.froz 4 (by simp)
        have q_bD_5 := bD.now.cell 5 _ rfl
        have f_bD_5 := bD.now.froz 5 (by simp)
        have q_bD_6 := bD.now.cell 6 _ rfl
        have f_bD_6 := bD.now.froz 6 (by simp)
        have q_bD_7 := bD.now.cell 7 _ rfl
        have f_bD_7 := bD.now.froz 7 (by simp)
        have q_bD_8 := bD.now.cell 8 _ rfl
        have f_bD_8 := bD.now.froz 8 (by simp)
        have q_bD_9 := bD.now.cell 9 _ rfl
        have f_bD_9 := bD.now.froz 9 (by simp)
        have q_bD_10 := bD.now.cell 10 _ rfl
        have f_bD_10 := bD.now.froz 10 (by simp)
        have q_bD_11 := bD.now.cell 11 _ rfl
        have f_bD_11 := bD.now.froz 11 (by simp)
        have q_bD_l := bD.now.lt
        go_wp2_with fail
        rw [show D = noD 4 by rw [HD.out, if_pos trivial, if_pos hr, if_neg (by omega)]]
        refine bodyPost_ret (v := dnV (noD 4) none 0 none 0) (by simp [results, Tryz.results17, go_sem, dnV, noD, q_bD_l, q_bD_0, q_bD_1, q_bD_2, q_bD_3, q_bD_4, q_bD_5, q_bD_6, q_bD_7, q_bD_8, q_bD_9, q_bD_10, q_bD_11]) rfl (dn_no rfl ?_)
        iterate 12 (refine Below.setCell ?_ (by show w.heap.size ≤ w.heap.size + 1; omega) _)
        exact hE
      have q_bS_0 := bS.now.cell 0 _ rfl
      have q_bS_1 := bS.now.cell 1 _ rfl
      have q_bS_2 := bS.now.cell 2 _ rfl
      have q_bS_3 := bS.now.cell 3 _ rfl
      have q_bS_4 := bS.now.cell 4 _ rfl
      have q_bS_5 := bS.now.cell 5 _ rfl
      have q_bS_6 := bS.now.cell 6 _ rfl
      have q_bS_7 := bS.now.cell 7 _ rfl
      have q_bS_8 := bS.now.cell 8 _ rfl
      have q_bS_9 := bS.now.cell 9 _ rfl
      have q_bS_l := bS.now.lt
      go_wp2_with fail
      clear q_bS_0 q_bS_1 q_bS_2 q_bS_3 q_bS_4 q_bS_5 q_bS_6 q_bS_7 q_bS_8 q_bS_9 q_bS_l
      refine (HWO.out _ _ _).mono ?_
      rintro e v9 ⟨g, rfl, hWr, hb⟩
      have s_v9 : v8.heap.size ≤ v9.heap.size := hb.size
      have n_bS := bS.below hb
      clear bS
      have bS := n_bS
      clear n_bS
      have n_bD := bD.below hb
      clear bD
      have bD := n_bD
      clear n_bD
      have n_dA := dA.below hb
      clear dA
      have dA := n_dA
      clear n_dA
      have n_hE := hE.trans (hb.mono hE.size)
      clear hE
      have hE := n_hE
      clear n_hE
      clear hb
      have hgg := hWr.ge
      have HWR := hid hWr
      clear hWr
      go_wp2_with fail
      refine (HEN.out _ _ _ _ _ HWR.out (by omega) (by simp; omega)).mono ?_
      rintro e x1 ⟨⟨x, rfl⟩, v9, hW9, hb9, _⟩
      have s_x1 := hb9.size
      have n_bS := bS.low hb9 (by omega)
      clear bS
      have bS := n_bS
      clear n_bS
      have n_bD := bD.low hb9 (by omega)
      clear bD
      have bD := n_bD
      clear n_bD
      have n_dA := dA.low hb9 (by omega)
      clear dA
      have dA := n_dA
      clear n_dA
      have n_hE := hE.trans (hb9.mono (by omega))
      clear hE
      have hE := n_hE
      clear n_hE
      simp only [List.nil_append] at hW9
      obtain ⟨ya, yc, rfl⟩ := hW9.sl
      have hpl : (putOps (q + U) cut).length = cut.length := putOps_length _ _
      rw [hpl] at hW9
      have y0 := hW9.row.cell 0 _ rfl
      have yl := hW9.row.lt
      have hgn : w.heap.size ≠ g := by omega
      have hgn1 : w.heap.size + 1 ≠ g := by omega
      have hgn2 : ¬ g = w.heap.size + 1 := by omega
      have hgn3 : ¬ g = w.heap.size := by omega
      have HW9 := hid hW9
      clear hW9
      have q_bS_0 := bS.now.cell 0 _ rfl
      have f_bS_0 := bS.now.froz 0 (by simp)
      have q_bS_1 := bS.now.cell 1 _ rfl
      have f_bS_1 := bS.now.froz 1 (by simp)
      have q_bS_2 := bS.now.cell 2 _ rfl
      have f_bS_2 := bS.now.froz 2 (by simp)
      have q_bS_3 := bS.now.cell 3 _ rfl
      have f_bS_3 := bS.now.froz 3 (by simp)
      have q_bS_4 := bS.now.cell 4 _ rfl
      have f_bS_4 := bS.now.froz 4 (by simp)
      have q_bS_5 := bS.now.cell 5 _ rfl
      have f_bS_5 := bS.now.froz 5 (by simp)
      have q_bS_6 := bS.now.cell 6 _ rfl
      have f_bS_6 := bS.now.froz 6 (by simp)
      have q_bS_7 := bS.now.cell 7 _ rfl
      have f_bS_7 := bS.now.froz 7 (by simp)
      have q_bS_8 := bS.now.cell 8 _ rfl
      have f_bS_8 := bS.now.froz 8 (by simp)
      have q_bS_9 := bS.now.cell 9 _ rfl
      have f_bS_9 := bS.now.froz 9 (by simp)
      have q_bS_l := bS.now.lt
      have q_bD_0 := bD.now.cell 0 _ rfl
      have f_bD_0 := bD.now.froz 0 (by simp)
      have q_bD_1 := bD.now.cell 1 _ rfl
      have f_bD_1 := bD.now.froz 1 (by simp)
      have q_bD_2 := bD.now.cell 2 _ rfl
      have f_bD_2 := bD.now.froz 2 (by simp)
      have q_bD_3 := bD.now.cell 3 _ rfl
      have f_bD_3 := bD.now.froz 3 (by simp)
      have q_bD_4 := bD.now.cell 4 _ rfl
      have f_bD_4 := bD.now.froz 4 (by simp)
      have q_bD_5 := bD.now.cell 5 _ rfl
      have f_bD_5 := bD.now.froz 5 (by simp)
      have q_bD_6 := bD.now.cell 6 _ rfl
      have f_bD_6 := bD.now.froz 6 (by simp)
      have q_bD_7 := bD.now.cell 7 _ rfl
      have f_bD_7 := bD.now.froz 7 (by simp)
      have q_bD_8 := bD.now.cell 8 _ rfl
      have f_bD_8 := bD.now.froz 8 (by simp)
      have q_bD_9 := bD.now.cell 9 _ rfl
      have f_bD_9 := bD.now.froz 9 (by simp)
      have q_bD_10 := bD.now.cell 10 _ rfl
      have f_bD_10 := bD.now.froz 10 (by simp)
      have q_bD_11 := bD.now.cell 11 _ rfl
      have f_bD_11 := bD.now.froz 11 (by simp)
      have q_bD_l := bD.now.lt
      go_wp2_with fail
      refine wp_region_held_drew (S := fun w' => w'.cell? ⟨w.heap.size, 0, none⟩ = some (.int .i64 (n : Int)) ∧ w'.cell? ⟨w.heap.size, 1, none⟩ = some (.int .i64 S) ∧ w'.cell? ⟨w.heap.size, 2, none⟩ = some (.int .i64 L) ∧ w'.cell? ⟨w.heap.size, 3, none⟩ = some (.int .i64 T) ∧ w'.cell? ⟨w.heap.size, 4, none⟩ = some (.int .i64 H) ∧ w'.cell? ⟨w.heap.size, 5, none⟩ = some (.int .i64 F) ∧ w'.cell? ⟨w.heap.size, 6, none⟩ = some (.int .i64 R) ∧ w'.cell? ⟨w.heap.size, 7, none⟩ = some (.int .i64 (U + N)) ∧ w'.cell? ⟨w.heap.size, 8, none⟩ = some (.int .i64 (O + N)) ∧ w'.cell? ⟨w.heap.size, 9, none⟩ = some (.slice a5 A1.length c5) ∧ w'.cell? ⟨g, 0, none⟩ = some (.slice ya cut.length yc)) (by kernel_rfl) (⟨by go_simp, by go_simp, by go_simp, by go_simp, by go_simp, by go_simp, by go_simp, by go_simp, by go_simp, by go_simp, by go_simp⟩) (fun hHeld => ?_)
      refine wpAnyH_take (i := 0) (v := .agg #[.int .i64 (n : Int), .int .i64 S, .int .i64 L, .int .i64 T, .int .i64 H, .int .i64 F, .int .i64 R, .int .i64 (U + N), .int .i64 (O + N), .slice a5 A1.length c5]) rfl (by kernel_rfl) (by kernel_rfl) (by kernel_rfl) (fun _ _ _ h => h) (Or.inl ⟨by rfl, fun w hw => by obtain ⟨z0, z1, z2, z3, z4, z5, z6, z7, z8, z9, z10⟩ := hw; go_simp⟩) hHeld ?_
      simp only [Act.put, List.getElem_toArray, List.getElem_cons_zero, List.getElem_cons_succ, List.setIfInBounds_toArray, List.set_cons_zero, List.set_cons_succ]
      refine wpAnyH_take (i := 1) (v := .pointer (some ⟨g, 0, none⟩)) rfl (by kernel_rfl) (by kernel_rfl) (by kernel_rfl) (fun _ _ _ h => h) (Or.inl ⟨by rfl, fun w hw => by obtain ⟨z0, z1, z2, z3, z4, z5, z6, z7, z8, z9, z10⟩ := hw; go_simp⟩) hHeld ?_
      simp only [Act.put, List.getElem_toArray, List.getElem_cons_zero, List.getElem_cons_succ, List.setIfInBounds_toArray, List.set_cons_zero, List.set_cons_succ]
      refine wpAnyH_take (i := 2) (v := .pointer (some ⟨g, 0, none⟩)) rfl (by kernel_rfl) (by kernel_rfl) (by kernel_rfl) (fun _ _ _ h => h) (Or.inl ⟨by rfl, fun w hw => by obtain ⟨z0, z1, z2, z3, z4, z5, z6, z7, z8, z9, z10⟩ := hw; go_simp⟩) hHeld ?_
      simp only [Act.put, List.getElem_toArray, List.getElem_cons_zero, List.getElem_cons_succ, List.setIfInBounds_toArray, List.set_cons_zero, List.set_cons_succ]
      refine wpAnyH_take (i := 3) (v := .pointer (some ⟨g, 0, none⟩)) rfl (by kernel_rfl) (by kernel_rfl) (by kernel_rfl) (fun _ _ _ h => h) (Or.inl ⟨by rfl, fun w hw => by obtain ⟨z0, z1, z2, z3, z4, z5, z6, z7, z8, z9, z10⟩ := hw; go_simp⟩) hHeld ?_
      simp only [Act.put, List.getElem_toArray, List.getElem_cons_zero, List.getElem_cons_succ, List.setIfInBounds_toArray, List.set_cons_zero, List.set_cons_succ]
      refine wpAnyH_take (i := 4) (v := .slice ya cut.length yc) rfl (by kernel_rfl) (by kernel_rfl) (by kernel_rfl) (fun _ _ _ h => h) (Or.inl ⟨by rfl, fun w hw => by obtain ⟨z0, z1, z2, z3, z4, z5, z6, z7, z8, z9, z10⟩ := hw; go_simp⟩) hHeld ?_
      simp only [Act.put, List.getElem_toArray, List.getElem_cons_zero, List.getElem_cons_succ, List.setIfInBounds_toArray, List.set_cons_zero, List.set_cons_succ]
      refine wpAnyH_take (i := 5) (v := .agg #[.int .i64 0, .int .i64 (n : Int), .int .i64 S, .int .i64 L, .int .i64 T, .int .i64 H, .int .i64 F, .int .i64 R, .int .i64 (U + N), .int .i64 (O + N), .slice a5 A1.length c5, .slice ya cut.length yc]) rfl (by kernel_rfl) (by kernel_rfl) (by kernel_rfl) (fun _ _ _ h => h) (Or.inl ⟨by rfl, fun w hw => by obtain ⟨z0, z1, z2, z3, z4, z5, z6, z7, z8, z9, z10⟩ := hw; go_simp⟩) hHeld ?_
      simp only [Act.put, List.getElem_toArray, List.getElem_cons_zero, List.getElem_cons_succ, List.setIfInBounds_toArray, List.set_cons_zero, List.set_cons_succ]
      refine wpAnyH_ready (rs := [6]) (by kernel_rfl) (by simp) ?_
      refine AllReadyH.cons rfl (fun K hK => ?_) AllReadyH.nil
      go_simp
      refine hK.out _ _ (⟨by go_simp, by go_simp, by go_simp, by go_simp, by go_simp, by go_simp, by go_simp, by go_simp, by go_simp, by go_simp, by go_simp⟩) (fun hHd1 => ?_)
      clear hK K
      try simp only [Act.put, List.getElem_toArray, List.getElem_cons_zero, List.getElem_cons_succ, List.setIfInBounds_toArray, List.set_cons_zero, List.set_cons_succ]
      refine wpAnyH_done (by kernel_rfl) ?_ _
      go_wp2
      rw [show D = (⟨0, (n : Int), S, L, T, H, F, R, U + N, O + N, A1, putOps (q + U) cut⟩ : Dd) by rw [HD.out, if_pos trivial, if_pos hr, if_pos hp]]
      have hyc : ∀ g, blk ya cut.length = some g → v8.heap.size ≤ g := fun g hg => by
        unfold blk at hg
        split at hg
        · cases hg
        · cases ya with
          | none => cases hg
          | some ad => simp at hg; subst hg; exact (HW9.out.own.lt ad.block rfl).1
      have hof : OwnS x1 ya (opcells (putOps (q + U) cut)) := by
        rcases owns_forms HW9.out.own with ⟨_, e2⟩ | ⟨g, cap, e1, _, _, e4⟩
        · exact .inl (by rw [List.eq_nil_of_length_eq_zero e2]; rfl)
        · have e5 : ya = some ⟨g, 0, none⟩ := by injection e1
          subst e5; exact .inr ⟨g, rfl, e4⟩
      refine bodyPost_ret (v := dnV ⟨0, (n : Int), S, L, T, H, F, R, U + N, O + N, A1, putOps (q + U) cut⟩ a5 c5 ya yc) (by simp [results, Tryz.results17, go_sem, dnV, putOps_length, q_bD_0, q_bD_1, q_bD_2, q_bD_3, q_bD_4, q_bD_5, q_bD_6, q_bD_7, q_bD_8, q_bD_9, q_bD_10, q_bD_11]) rfl ⟨a5, c5, ya, yc, rfl, hc5, ⟨?_, ?_, ?_⟩, ?_, ?_, ?_⟩
      · refine OwnS.drew' ?_
        iterate 12 (refine OwnS.set' ?_ _ (fun g hg hne => by have := lo5 g (by subst hg; exact blk_pos _ _ _ (ne_of_prcells hne)); show w.heap.size + 1 ≠ g; omega) _)
        iterate 2 (refine OwnS.set' ?_ _ (fun g hg hne => by have := lo5 g (by subst hg; exact blk_pos _ _ _ (ne_of_prcells hne)); show w.heap.size ≠ g; omega) _)
        exact dA.now
      · refine OwnS.drew' ?_
        iterate 12 (refine OwnS.set' ?_ _ (fun g hg hne => by have := hyc g (by subst hg; exact blk_pos _ _ _ (by have := ne_of_opcells hne; rwa [hpl] at this)); show w.heap.size + 1 ≠ g; omega) _)
        iterate 2 (refine OwnS.set' ?_ _ (fun g hg hne => by have := hyc g (by subst hg; exact blk_pos _ _ _ (by have := ne_of_opcells hne; rwa [hpl] at this)); show w.heap.size ≠ g; omega) _)
        exact hof
      · show Apart _ _ _ (putOps (q + U) cut).length
        rw [hpl]
        cases hb1 : blk a5 A1.length with
        | none => exact .inl hb1
        | some g =>
          cases hb2 : blk ya cut.length with
          | none => exact .inr (.inl hb2)
          | some g' =>
            have h1 := lo5 g hb1
            have h2 := hyc g' hb2
            refine .inr (.inr fun e => ?_)
            rw [hb1, hb2] at e
            cases e
            omega
      · exact fun g hg => by have := lo5 g hg; omega
      · exact fun g hg => by change blk _ (putOps (q + U) cut).length = _ at hg; rw [hpl] at hg; have := hyc g hg; omega
      · refine Below.drew ?_
        iterate 12 (refine Below.setCell ?_ (by show w.heap.size ≤ w.heap.size + 1; omega) _)
        iterate 2 (refine Below.setCell ?_ (by show w.heap.size ≤ w.heap.size; omega) _)
        exact hE
end Go.Proofs.YtnmaknnnmjfhkafGreat
