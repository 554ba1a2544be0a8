import Derived.Test.YtnmaknnnmjfhkacRbP
namespace Go.Proofs.Ytnmaknnnmjfhkac
open Go.RowKit
set_option linter.unusedVariables false
set_option linter.unusedSimpArgs false

theorem pc_of {r k m : ByteArray} (h : nums r = [(k.size : Int)] ++ nums k ++ nums m) (hk : k.size ≤ 255) : pc r = some (k, m) := by
  have hl := congrArg List.length h
  simp only [List.length_append, List.length_cons, List.length_nil, nums_length] at hl
  have hn := nums_head r (by omega)
  have hb : b0 r = k.size := by
    rw [hn] at h
    simp only [List.singleton_append, List.cons_append, List.cons.injEq] at h
    omega
  unfold pc
  rw [if_pos (by omega), hb]
  have l1 : (nums k).length = k.size := nums_length k
  have e1 : r.extract 1 (1 + k.size) = k := by
    apply nums_inj
    rw [nums_extractR, h, List.append_assoc, List.drop_left' (by rfl), Nat.add_sub_cancel_left, List.take_left' l1]
  have e2 : r.extract (1 + k.size) r.size = m := by
    apply nums_inj
    rw [nums_extractR, h, List.drop_left' (by rw [List.length_append, l1]; simp), List.take_of_length_le (by rw [nums_length]; omega)]
  rw [e1, e2]
theorem stp_of {r m : ByteArray} {c : Ch} (hc : chOk c = true) (h : nums r = chN c ++ nums m) : stp r = some (c, m) := by
  obtain ⟨k, v, g⟩ := c
  unfold chOk kOk vOk at hc
  simp only [Bool.and_eq_true, decide_eq_true_eq, Bool.not_eq_true', Bool.and_eq_false_iff, decide_eq_false_iff_not] at hc
  have ht := nums_tail r
  cases g with
  | true =>
    have hv : v = ByteArray.empty := by
      apply nums_inj
      have : v.size = 0 := by rcases hc.2 with h | h <;> simp_all
      rw [nums_empty]
      exact List.eq_nil_of_length_eq_zero (by rw [nums_length]; exact this)
    subst hv
    have e : chN (k, ByteArray.empty, true) = [1] ++ ([(k.size : Int)] ++ nums k) := rfl
    rw [e] at h
    have hb : b0 r = 1 := by
      have hl := congrArg List.length h
      simp only [List.length_append, List.length_cons, List.length_nil, nums_length] at hl
      rw [nums_head r (by omega)] at h
      simp only [List.singleton_append, List.cons_append, List.cons.injEq] at h
      omega
    have hp := pc_of (r := r.extract 1 r.size) (k := k) (m := m) (by rw [ht, h]; simp) (by omega)
    unfold stp
    rw [hp]
    simp only [hb, if_true]
  | false =>
    have e : chN (k, v, false) = [0] ++ ([(k.size : Int)] ++ nums k) ++ ([(v.size : Int)] ++ nums v) := rfl
    rw [e] at h
    have hb : ¬ b0 r = 1 := by
      have hl := congrArg List.length h
      simp only [List.length_append, List.length_cons, List.length_nil, nums_length] at hl
      rw [nums_head r (by omega)] at h
      simp only [List.singleton_append, List.cons_append, List.cons.injEq] at h
      omega
    have hr : ∀ y ∈ ([(v.size : Int)] ++ nums v) ++ nums m, 0 ≤ y ∧ y ≤ 255 := by
      intro y hy
      have := nums_range r y
      rw [h] at this
      exact this (by simp only [List.append_assoc, List.mem_append] at hy ⊢; rcases hy with hy | hy | hy <;> simp [hy])
    have hp := pc_of (r := r.extract 1 r.size) (k := k) (m := strOfNums (([(v.size : Int)] ++ nums v) ++ nums m)) (by rw [ht, h, nums_strOfNumsR _ hr]; simp) (by omega)
    have hq := pc_of (r := strOfNums (([(v.size : Int)] ++ nums v) ++ nums m)) (k := v) (m := m) (nums_strOfNumsR _ hr) (by omega)
    unfold stp
    rw [hp]
    simp only [hb, if_false, hq]
theorem run_of : ∀ (l : List Ch) (n : Nat) (r : ByteArray) (o : List Ch), (∀ x ∈ l, chOk x = true) → l.length ≤ n → nums r = l.flatMap chN → ∃ r', run n r o = some (o ++ l, r')
  | [], n, r, o, _, _, h => by
    have hz : r.size = 0 := by rw [← nums_length, h]; rfl
    exact ⟨r, by rw [run_nil n o r hz, List.append_nil]⟩
  | c :: l, 0, r, o, _, hn, _ => by simp at hn
  | c :: l, n + 1, r, o, hc, hn, h => by
    rw [List.flatMap_cons] at h
    have hcl : 1 ≤ (chN c).length := by unfold chN; split <;> simp <;> omega
    have hz : ¬ r.size = 0 := by
      have := congrArg List.length h
      rw [nums_length, List.length_append] at this
      omega
    have hr : ∀ y ∈ l.flatMap chN, 0 ≤ y ∧ y ≤ 255 := by
      intro y hy
      have := nums_range r y
      rw [h] at this
      exact this (List.mem_append_right _ hy)
    have hs := stp_of (hc c List.mem_cons_self) (m := strOfNums (l.flatMap chN)) (r := r) (by rw [h, nums_strOfNumsR _ hr])
    obtain ⟨r', h'⟩ := run_of l n (strOfNums (l.flatMap chN)) (o ++ [c]) (fun x hx => hc x (List.mem_cons_of_mem _ hx)) (by simp at hn; omega) (nums_strOfNumsR _ hr)
    refine ⟨r', ?_⟩
    rw [run, if_neg hz, hs]
    simp only
    rw [h', List.append_assoc]
    rfl
theorem chOk_size {x : Ch} (h : chOk x = true) : 1 ≤ x.1.size ∧ x.1.size ≤ 20 ∧ x.2.1.size ≤ 100 := by
  unfold chOk kOk vOk at h
  simp only [Bool.and_eq_true, decide_eq_true_eq] at h
  omega
theorem bForm_nums (b : List Ch) (h : ∀ x ∈ b, chOk x = true) : nums (bForm b) = b.flatMap chN := by
  refine nums_strOfNumsR _ (fun y hy => ?_)
  obtain ⟨x, hx, hy⟩ := List.mem_flatMap.1 hy
  have := chOk_size (h x hx)
  exact chN_range x (by omega) (by omega) y hy
theorem bForm_ne (b : List Ch) (h : batchOk b = true) : (bForm b).size ≠ 0 := by
  intro h0
  obtain ⟨h1, h2⟩ := batchOk_of h
  have hn := bForm_nums b h2
  have : b.flatMap chN = [] := by rw [← hn]; exact List.eq_nil_of_length_eq_zero (by rw [nums_length]; exact h0)
  match b, h1 with
  | x :: o', _ =>
    simp only [List.flatMap_cons, List.append_eq_nil_iff] at this
    have := this.1
    unfold chN at this
    split at this <;> simp at this
/-- A batch that is valid is read back. -/
theorem res_form (b : List Ch) (h : batchOk b = true) : resS (bForm b) = some b := by
  obtain ⟨h1, h2⟩ := batchOk_of h
  obtain ⟨r', h'⟩ := run_of b 21 (bForm b) [] h2 (by omega) (bForm_nums b h2)
  unfold resS
  rw [h', List.nil_append]
  simp only
  rw [if_pos ⟨bForm_ne b h, by unfold bOut; rw [if_pos h]⟩]
theorem res_empty : resS ByteArray.empty = none := by
  unfold resS
  rw [run_nil 21 [] ByteArray.empty rfl]
  simp
theorem res_out {t : ByteArray} {o : List Ch} (h : resS t = some o) : bOut o = t ∧ batchOk o = true := by
  unfold resS at h
  cases hr : run 21 t [] with
  | none => rw [hr] at h; cases h
  | some p =>
    obtain ⟨o', r⟩ := p
    rw [hr] at h
    simp only at h
    split at h
    · rename_i hc
      cases h
      refine ⟨hc.2, ?_⟩
      cases hb : batchOk o with
      | true => rfl
      | false =>
        exfalso
        have := hc.2
        unfold bOut at this
        rw [hb] at this
        simp at this
        exact hc.1 (by rw [← this]; rfl)
    · cases h
end Go.Proofs.Ytnmaknnnmjfhkac
