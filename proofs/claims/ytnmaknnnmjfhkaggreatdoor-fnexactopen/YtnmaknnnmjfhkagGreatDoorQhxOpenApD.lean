import Derived.Test.YtnmaknnnmjfhkagGreatDoorMhXOpen3
namespace Go.Proofs.YtnmaknnnmjfhkagGreatDoor
open Go.RowKit Go.Lib
set_option linter.unusedVariables false
set_option linter.unusedSimpArgs false
set_option maxRecDepth 8000

theorem szPrD : (Tryz.prog.info? 144).map (·.size) = some 2 := by kernel_rfl
theorem zvPrD (w : World) : (zeroValue 144).run Tryz.prog w = .ok (.agg #[.string ByteArray.empty, .string ByteArray.empty]) w := by kernel_rfl
/-- What is left in a row of which a pair was taken away. -/
def delRow (cur : List Value) (n p : Nat) : List Value := cur.take (p * 2) ++ (cur.drop (p * 2 + 2)).take ((n - p - 1) * 2) ++ [.string ByteArray.empty, .string ByteArray.empty] ++ cur.drop (n * 2)
theorem del_eq (cur : List Value) (n p : Nat) (hl : n * 2 ≤ cur.length) (hp : p < n) (cs c1 : List Value) (hcs : cs = (cur.drop (p * 2 + 2)).take ((n - p - 1) * 2)) (hc1 : c1 = cur.take (p * 2) ++ cs ++ cur.drop (p * 2 + cs.length)) :
    cs.length = (n - p - 1) * 2 ∧ c1.length = cur.length ∧ c1.take ((n - 1) * 2) ++ [.string ByteArray.empty, .string ByteArray.empty] ++ c1.drop ((n - 1) * 2 + 2) = delRow cur n p := by
  have e1 : cs.length = (n - p - 1) * 2 := by rw [hcs, List.length_take, List.length_drop]; omega
  have e2 : (cur.take (p * 2) ++ cs).length = (n - 1) * 2 := by rw [List.length_append, List.length_take, e1]; omega
  refine ⟨e1, by rw [hc1, List.length_append, e2, List.length_drop, e1]; omega, ?_⟩
  unfold delRow
  rw [← hcs, hc1, List.take_left' e2, List.drop_append, List.drop_of_length_le (by rw [e2]; omega), e2, List.nil_append, List.drop_drop, e1]
  congr 2
  omega
set_option maxHeartbeats 4000000 in
theorem delete_i (g n cap p : Nat) (cur : List Value) (w : World) (hg : w.heap[g]? = some (.cells cur.toArray 144 (0, 0))) (hl : cur.length = cap * 2) (hn : n ≤ cap) (hc : n ≤ 100000) (hp : p < n) (h1 : ∀ v ∈ cur.take (n * 2), v.oneCell' = true) :
    Calls Tryz.prog 316 #[.slice (some ⟨g, 0, none⟩) n cap, .int .i64 (p : Int), .int .i64 ((p : Int) + 1)] w fun e w' => e = .returned (.slice (some ⟨g, 0, none⟩) (n - 1) cap) ∧ w.grownBy w' (some g) ∧
      w'.heap[g]? = some (.cells (delRow cur n p).toArray 144 (0, 0)) := by
  have hz1 : ¬ ((p : Int) = (p : Int) + 1) := by omega
  have hb1 : (p : Int) ≤ (p : Int) + 1 := by omega
  have hb2 : (p : Int) + 1 ≤ (n : Int) := by omega
  have hb0 : (0 : Int) ≤ (p : Int) := by omega
  have hb3 : (0 : Int) ≤ (p : Int) + 1 := by omega
  have hb4 : (n : Int) ≤ (cap : Int) := by omega
  have hb5 : (p : Int) ≤ (cap : Int) := by omega
  have htn : ((p : Int) + 1).toNat = p + 1 := by omega
  have hpn : p + (n - (p + 1)) = n - 1 := by omega
  obtain ⟨cs, hcs⟩ : ∃ cs, cs = (cur.drop (p * 2 + 2)).take ((n - p - 1) * 2) := ⟨_, rfl⟩
  obtain ⟨c1, hc1⟩ : ∃ c1, c1 = cur.take (p * 2) ++ cs ++ cur.drop (p * 2 + cs.length) := ⟨_, rfl⟩
  obtain ⟨e1, e2, e3⟩ := del_eq cur n p (by omega) hp cs c1 hcs hc1
  have hcs1 : ∀ v ∈ cs, v.oneCell' = true := fun v hv => h1 v (by rw [hcs, show (n - p - 1) * 2 = n * 2 - (p * 2 + 2) by omega, ← List.drop_take] at hv; exact List.mem_of_mem_drop hv)
  have hcell : ∀ (D : Addr), (D = ⟨g, (p + 1) * 2, none⟩ ∨ cs = []) → ∀ j v, cs[j]? = some v → w.drew.cell? (D.add j) = some v := fun D hD j v hj => by
    rcases hD with rfl | h0
    · rw [Addr.add_lit]
      refine cell_of_row (w := w.drew) (cur := cur) hg ?_
      rw [hcs, List.getElem?_take] at hj
      split at hj
      · rw [List.getElem?_drop] at hj
        rw [← hj]; congr 1; omega
      · cases hj
    · rw [h0] at hj; cases hj
  have HAP : Hid (∀ D c ty, (D = ⟨g, (p + 1) * 2, none⟩ ∨ cs = []) → (Builtin.append_ #[29, 29] ty #[.slice (some ⟨g, 0, none⟩) p cap, .slice (some D) (n - (p + 1)) c]).run Tryz.prog w.drew = .ok (.slice (some ⟨g, 0, none⟩) (n - 1) cap) (w.drew.setRow g c1.toArray)) := fun D c ty hD => by
    have := run_append_in (P := Tryz.prog) w.drew 29 ty 144 2 g p cap D (n - (p + 1)) c cur.toArray 144 cs Tryz.underlying29 szPrD hg (by omega) (by rw [e1]; omega) (hcell D hD) (by rw [e1]; simp; omega) hcs1
    rw [hpn] at this
    rw [this, hc1]
  have HCL : Hid (∀ c ty, (Builtin.clear_ #[29] ty #[.slice (some ⟨g, (n - 1) * 2, none⟩) (n - (n - 1)) c]).run Tryz.prog (w.drew.setRow g c1.toArray) = .ok (.tuple #[]) ((w.drew.setRow g c1.toArray).setRow g (delRow cur n p).toArray)) := fun c ty => by
    rw [show n - (n - 1) = 1 by omega]
    have := run_clear_k (P := Tryz.prog) (w.drew.setRow g c1.toArray) 29 ty 144 _ Tryz.underlying29 zvPrD g ((n - 1) * 2) 1 c (by omega) c1.toArray 144 [.string ByteArray.empty, .string ByteArray.empty] (setRow_heap w.drew g cur.toArray c1.toArray 144 (0, 0) hg) (by kernel_rfl) (by simp; omega) (onePr _ _)
    rw [this, ← e3]
    simp
  have hcz0 : cap = p + 1 → cs = [] := fun h => List.eq_nil_of_length_eq_zero (by rw [e1]; omega)
  have HCZ := hid hcz0
  have HG := hid hg
  clear hcz0 hcell hcs hc1 e1 e2 e3 hcs1 h1 hg
  go_enter Tryz.func316, Tryz.ntmps316
  by_cases hcp : cap = p + 1
  case pos =>
    have hD : (⟨g, 0, none⟩ : Addr) = ⟨g, (p + 1) * 2, none⟩ ∨ cs = [] := .inr (HCZ.out hcp)
    go_wp2_with fail
    refine wp_region_held_drew (S := fun w' => True) (by kernel_rfl) (trivial) (fun hHeld => ?_)
    refine wpAnyH_take (i := 0) (v := .slice (some ⟨g, 0, none⟩) n cap) rfl (by kernel_rfl) (by kernel_rfl) (by kernel_rfl) (fun _ _ _ h => h) (Or.inl ⟨by rfl, fun w hw => by obtain z0 := hw; go_simp⟩) hHeld ?_
    simp only [Act.put, List.getElem_toArray, List.getElem_cons_zero, List.getElem_cons_succ, List.setIfInBounds_toArray, List.set_cons_zero, List.set_cons_succ]
    refine wpAnyH_take (i := 1) (v := .int .i64 (p : Int)) rfl (by kernel_rfl) (by kernel_rfl) (by kernel_rfl) (fun _ _ _ h => h) (Or.inl ⟨by rfl, fun w hw => by obtain z0 := hw; go_simp⟩) hHeld ?_
    simp only [Act.put, List.getElem_toArray, List.getElem_cons_zero, List.getElem_cons_succ, List.setIfInBounds_toArray, List.set_cons_zero, List.set_cons_succ]
    refine wpAnyH_take (i := 2) (v := .slice (some ⟨g, 0, none⟩) p cap) rfl (by kernel_rfl) (by kernel_rfl) (by kernel_rfl) (fun _ _ _ h => h) (Or.inl ⟨by rfl, fun w hw => by obtain z0 := hw; go_simp⟩) hHeld ?_
    simp only [Act.put, List.getElem_toArray, List.getElem_cons_zero, List.getElem_cons_succ, List.setIfInBounds_toArray, List.set_cons_zero, List.set_cons_succ]
    refine wpAnyH_take (i := 3) (v := .slice (some ⟨g, 0, none⟩) n cap) rfl (by kernel_rfl) (by kernel_rfl) (by kernel_rfl) (fun _ _ _ h => h) (Or.inl ⟨by rfl, fun w hw => by obtain z0 := hw; go_simp⟩) hHeld ?_
    simp only [Act.put, List.getElem_toArray, List.getElem_cons_zero, List.getElem_cons_succ, List.setIfInBounds_toArray, List.set_cons_zero, List.set_cons_succ]
    refine wpAnyH_take (i := 4) (v := .int .i64 ((p : Int) + 1)) rfl (by kernel_rfl) (by kernel_rfl) (by kernel_rfl) (fun _ _ _ h => h) (Or.inl ⟨by rfl, fun w hw => by obtain z0 := hw; go_simp⟩) hHeld ?_
    simp only [Act.put, List.getElem_toArray, List.getElem_cons_zero, List.getElem_cons_succ, List.setIfInBounds_toArray, List.set_cons_zero, List.set_cons_succ]
    refine wpAnyH_take (i := 5) (v := .slice (some ⟨g, 0, none⟩) (n - (p + 1)) (cap - (p + 1))) rfl (by kernel_rfl) (by kernel_rfl) (by kernel_rfl) (fun _ _ _ h => h) (Or.inl ⟨by rfl, fun w hw => by obtain z0 := hw; go_simp⟩) hHeld ?_
    simp only [Act.put, List.getElem_toArray, List.getElem_cons_zero, List.getElem_cons_succ, List.setIfInBounds_toArray, List.set_cons_zero, List.set_cons_succ]
    refine wpAnyH_ready (rs := [6]) (by kernel_rfl) (by simp) ?_
    refine AllReadyH.cons rfl (fun K hK => ?_) AllReadyH.nil
    refine step_append_run rfl _ _ 29 29 rfl (.slice (some ⟨g, 0, none⟩) p cap) (.slice (some ⟨g, 0, none⟩) (n - (p + 1)) (cap - (p + 1))) (by simp [Act.eval, Act.put]) (by simp [Act.eval, Act.put]) (HAP.out _ _ _ hD) ?_
    refine hK.out _ _ (trivial) (fun hHd1 => ?_)
    clear hK K
    try simp only [Act.put, List.getElem_toArray, List.getElem_cons_zero, List.getElem_cons_succ, List.setIfInBounds_toArray, List.set_cons_zero, List.set_cons_succ]
    refine wpAnyH_ready (rs := [7]) (by kernel_rfl) (by simp) ?_
    refine AllReadyH.cons rfl (fun K hK => ?_) AllReadyH.nil
    go_simp
    refine hK.out _ _ hHd1 (fun _ => ?_)
    clear hK K
    try simp only [Act.put, List.getElem_toArray, List.getElem_cons_zero, List.getElem_cons_succ, List.setIfInBounds_toArray, List.set_cons_zero, List.set_cons_succ]
    refine wpAnyH_done (by kernel_rfl) ?_ _
    have hcl := HCL.out
    go_wp2_with fail
    go_ret
    exact ⟨by first | rfl | (rw [hcp]; rfl), grown_trans' (undrewG (setRow_grown w.drew g _)) (setRow_grown _ g _), setRow_heap _ g _ _ 144 (0, 0) (setRow_heap w.drew g cur.toArray c1.toArray 144 (0, 0) HG.out)⟩
  case neg =>
    go_wp2_with fail
    refine wp_region_held_drew (S := fun w' => True) (by kernel_rfl) (trivial) (fun hHeld => ?_)
    refine wpAnyH_take (i := 0) (v := .slice (some ⟨g, 0, none⟩) n cap) rfl (by kernel_rfl) (by kernel_rfl) (by kernel_rfl) (fun _ _ _ h => h) (Or.inl ⟨by rfl, fun w hw => by obtain z0 := hw; go_simp⟩) hHeld ?_
    simp only [Act.put, List.getElem_toArray, List.getElem_cons_zero, List.getElem_cons_succ, List.setIfInBounds_toArray, List.set_cons_zero, List.set_cons_succ]
    refine wpAnyH_take (i := 1) (v := .int .i64 (p : Int)) rfl (by kernel_rfl) (by kernel_rfl) (by kernel_rfl) (fun _ _ _ h => h) (Or.inl ⟨by rfl, fun w hw => by obtain z0 := hw; go_simp⟩) hHeld ?_
    simp only [Act.put, List.getElem_toArray, List.getElem_cons_zero, List.getElem_cons_succ, List.setIfInBounds_toArray, List.set_cons_zero, List.set_cons_succ]
    refine wpAnyH_take (i := 2) (v := .slice (some ⟨g, 0, none⟩) p cap) rfl (by kernel_rfl) (by kernel_rfl) (by kernel_rfl) (fun _ _ _ h => h) (Or.inl ⟨by rfl, fun w hw => by obtain z0 := hw; go_simp⟩) hHeld ?_
    simp only [Act.put, List.getElem_toArray, List.getElem_cons_zero, List.getElem_cons_succ, List.setIfInBounds_toArray, List.set_cons_zero, List.set_cons_succ]
    refine wpAnyH_take (i := 3) (v := .slice (some ⟨g, 0, none⟩) n cap) rfl (by kernel_rfl) (by kernel_rfl) (by kernel_rfl) (fun _ _ _ h => h) (Or.inl ⟨by rfl, fun w hw => by obtain z0 := hw; go_simp⟩) hHeld ?_
    simp only [Act.put, List.getElem_toArray, List.getElem_cons_zero, List.getElem_cons_succ, List.setIfInBounds_toArray, List.set_cons_zero, List.set_cons_succ]
    refine wpAnyH_take (i := 4) (v := .int .i64 ((p : Int) + 1)) rfl (by kernel_rfl) (by kernel_rfl) (by kernel_rfl) (fun _ _ _ h => h) (Or.inl ⟨by rfl, fun w hw => by obtain z0 := hw; go_simp⟩) hHeld ?_
    simp only [Act.put, List.getElem_toArray, List.getElem_cons_zero, List.getElem_cons_succ, List.setIfInBounds_toArray, List.set_cons_zero, List.set_cons_succ]
    refine wpAnyH_take (i := 5) (v := .slice (some ⟨g, (p + 1) * 2, none⟩) (n - (p + 1)) (cap - (p + 1))) rfl (by kernel_rfl) (by kernel_rfl) (by kernel_rfl) (fun _ _ _ h => h) (Or.inl ⟨by rfl, fun w hw => by obtain z0 := hw; go_simp⟩) hHeld ?_
    simp only [Act.put, List.getElem_toArray, List.getElem_cons_zero, List.getElem_cons_succ, List.setIfInBounds_toArray, List.set_cons_zero, List.set_cons_succ]
    refine wpAnyH_ready (rs := [6]) (by kernel_rfl) (by simp) ?_
    refine AllReadyH.cons rfl (fun K hK => ?_) AllReadyH.nil
    refine step_append_run rfl _ _ 29 29 rfl (.slice (some ⟨g, 0, none⟩) p cap) (.slice (some ⟨g, (p + 1) * 2, none⟩) (n - (p + 1)) (cap - (p + 1))) (by simp [Act.eval, Act.put]) (by simp [Act.eval, Act.put]) (HAP.out _ _ _ (.inl rfl)) ?_
    refine hK.out _ _ (trivial) (fun hHd1 => ?_)
    clear hK K
    try simp only [Act.put, List.getElem_toArray, List.getElem_cons_zero, List.getElem_cons_succ, List.setIfInBounds_toArray, List.set_cons_zero, List.set_cons_succ]
    refine wpAnyH_ready (rs := [7]) (by kernel_rfl) (by simp) ?_
    refine AllReadyH.cons rfl (fun K hK => ?_) AllReadyH.nil
    go_simp
    refine hK.out _ _ hHd1 (fun _ => ?_)
    clear hK K
    try simp only [Act.put, List.getElem_toArray, List.getElem_cons_zero, List.getElem_cons_succ, List.setIfInBounds_toArray, List.set_cons_zero, List.set_cons_succ]
    refine wpAnyH_done (by kernel_rfl) ?_ _
    have hcl := HCL.out
    go_wp2_with fail
    go_ret
    exact ⟨by first | rfl | (rw [hcp]; rfl), grown_trans' (undrewG (setRow_grown w.drew g _)) (setRow_grown _ g _), setRow_heap _ g _ _ 144 (0, 0) (setRow_heap w.drew g cur.toArray c1.toArray 144 (0, 0) HG.out)⟩
end Go.Proofs.YtnmaknnnmjfhkagGreatDoor
