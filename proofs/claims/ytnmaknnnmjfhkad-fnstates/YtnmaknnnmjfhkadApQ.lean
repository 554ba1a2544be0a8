import Derived.Test.YtnmaknnnmjfhkadApP
import Derived.Test.YtnmaknnnmjfhkadGtI
namespace Go.Proofs.Ytnmaknnnmjfhkad
open Go.RowKit Go.Sort
set_option maxRecDepth 4000
set_option linter.unusedVariables false
set_option linter.unusedSimpArgs false

theorem cmpB_rev {a b : ByteArray} (h : cmpB a b < 0) : 0 < cmpB b a := by
  rcases Int.lt_trichotomy (cmpB b a) 0 with h1 | h1 | h1
  · have := cmpB_trans a b a h h1
    rw [cmpB_self] at this
    omega
  · have := (cmpB_zero _ _).1 h1
    subst this
    rw [cmpB_self] at h
    omega
  · exact h1
theorem cmpB_ne {a b : ByteArray} (h : cmpB a b < 0) : a ≠ b := fun e => by subst e; rw [cmpB_self] at h; omega
theorem cmpB_ne' {a b : ByteArray} (h : 0 < cmpB a b) : a ≠ b := fun e => by subst e; rw [cmpB_self] at h; omega
/-- A state that is one: its pairs. -/
theorem stateOk_iff (rs : List Pr) : stateOk rs = true ↔ rs.length ≤ 100 ∧ (∀ x ∈ rs, kOk x.1 = true ∧ vOk x.2 = true) ∧ ascP rs := by
  constructor
  · intro h
    obtain ⟨h1, h2⟩ := stateOk_of h
    refine ⟨h1, fun x hx => ?_, asc_of h⟩
    obtain ⟨i, hi, rfl⟩ := List.getElem_of_mem hx
    have := h2 i hi
    unfold prOk at this
    rw [getD_at _ _ hi] at this
    simp only [Bool.and_eq_true] at this
    exact this.1
  · rintro ⟨h1, h2, h3⟩
    refine stateOk_yes h1 (fun k hk => ?_)
    unfold prOk
    have hm := h2 _ (List.getElem_mem hk)
    rw [getD_at _ _ hk, hm.1, hm.2]
    by_cases h0 : k = 0
    · simp [h0]
    · have hk1 : k - 1 < rs.length := by omega
      rw [getD_at _ _ hk1]
      unfold ascP at h3
      rw [List.pairwise_iff_getElem] at h3
      have := h3 (k - 1) k hk1 hk (by omega)
      have h4 : klt rs[k - 1].1 rs[k].1 = true := (cmpB_lt _ _).1 this
      simp [h4]
theorem split_at (key : ByteArray) : ∀ (rs : List Pr), ascP rs → ∃ a m r, rs = a ++ m ++ r ∧ (∀ x ∈ a, cmpB x.1 key < 0) ∧ (m = [] ∨ ∃ v, m = [(key, v)]) ∧ (∀ x ∈ r, 0 < cmpB x.1 key)
  | [], _ => ⟨[], [], [], rfl, by simp, .inl rfl, by simp⟩
  | x :: l, h => by
    unfold ascP at h
    rw [List.pairwise_cons] at h
    rcases Int.lt_trichotomy (cmpB x.1 key) 0 with h1 | h1 | h1
    · obtain ⟨a, m, r, e, ha, hm, hr⟩ := split_at key l h.2
      refine ⟨x :: a, m, r, by rw [e]; rfl, fun y hy => ?_, hm, hr⟩
      rcases List.mem_cons.1 hy with rfl | hy
      · exact h1
      · exact ha y hy
    · have e := (cmpB_zero _ _).1 h1
      refine ⟨[], [x], l, rfl, by simp, .inr ⟨x.2, by rw [← e]⟩, fun y hy => ?_⟩
      rw [← e]
      exact cmpB_rev (h.1 y hy)
    · refine ⟨[], [], x :: l, rfl, by simp, .inl rfl, fun y hy => ?_⟩
      rcases List.mem_cons.1 hy with rfl | hy
      · exact h1
      · have h2 : cmpB key x.1 < 0 := (cmpB_lt _ _).2 (cmpB_anti h1)
        exact cmpB_rev (cmpB_trans _ _ _ h2 (h.1 y hy))
theorem chF_split (c : Ch) (rs : List Pr) (h : ascP rs) : ∃ a m r, rs = a ++ m ++ r ∧ (∀ x ∈ a, cmpB x.1 c.1 < 0) ∧ (m = [] ∨ ∃ v, m = [(c.1, v)]) ∧ (∀ x ∈ r, 0 < cmpB x.1 c.1) ∧ chF c rs = chAt c a r := by
  obtain ⟨a, m, r, e, ha, hm, hr⟩ := split_at c.1 rs h
  exact ⟨a, m, r, e, ha, hm, hr, by rw [e]; exact chF_at c a m r ha hm hr⟩
theorem chF_asc (c : Ch) (rs : List Pr) (h : ascP rs) : ascP (chF c rs) := by
  obtain ⟨a, m, r, e, ha, hm, hr, hc⟩ := chF_split c rs h
  rw [hc]
  rw [e] at h
  exact chAt_asc c a m r h ha hr
theorem chF_mem (c : Ch) (rs : List Pr) (h : ascP rs) : ∀ x ∈ chF c rs, x ∈ rs ∨ (x = (c.1, c.2.1) ∧ c.2.2 = false) := by
  obtain ⟨a, m, r, e, ha, hm, hr, hc⟩ := chF_split c rs h
  rw [hc]
  intro x hx
  unfold chAt at hx
  rw [List.mem_append, List.mem_append] at hx
  rcases hx with (hx | hx) | hx
  · exact .inl (by rw [e]; simp [hx])
  · split at hx
    · simp at hx
    · rename_i hg
      simp at hx
      exact .inr ⟨hx, by simpa using hg⟩
  · exact .inl (by rw [e]; simp [hx])
theorem apU_asc (rs : List Pr) (h : ascP rs) : ∀ (b : List Ch), ascP (apU rs b) := by
  intro b
  unfold apU
  induction b generalizing rs with
  | nil => exact h
  | cons c l ih => exact ih _ (chF_asc c rs h)
theorem apU_mem (rs : List Pr) (h : ascP rs) : ∀ (b : List Ch), ∀ x ∈ apU rs b, x ∈ rs ∨ ∃ c ∈ b, x = (c.1, c.2.1) := by
  intro b
  unfold apU
  induction b generalizing rs with
  | nil => exact fun x hx => .inl hx
  | cons c l ih =>
    intro x hx
    rcases ih _ (chF_asc c rs h) x hx with h1 | ⟨c', h1, h2⟩
    · rcases chF_mem c rs h x h1 with h3 | h3
      · exact .inl h3
      · exact .inr ⟨c, List.mem_cons_self, h3.1⟩
    · exact .inr ⟨c', List.mem_cons_of_mem _ h1, h2⟩
theorem chOk_parts {c : Ch} (h : chOk c = true) : kOk c.1 = true ∧ vOk c.2.1 = true := by
  unfold chOk at h
  simp only [Bool.and_eq_true] at h
  exact h.1
theorem apC_zero {rs : List Pr} {b : List Ch} (h : apC rs b = 0) : stateOk rs = true ∧ batchOk b = true ∧ (apU rs b).length ≤ 100 := by
  unfold apC at h
  split at h
  · rename_i h1
    simp only [Bool.and_eq_true] at h1
    split at h
    · rename_i h2; exact ⟨h1.1, h1.2, h2⟩
    · cases h
  · cases h
/-- What Apply gives is a state. -/
theorem apU_ok {rs : List Pr} {b : List Ch} (h : apC rs b = 0) : stateOk (apU rs b) = true := by
  obtain ⟨h1, h2, h3⟩ := apC_zero h
  obtain ⟨_, k2, k3⟩ := (stateOk_iff rs).1 h1
  refine (stateOk_iff _).2 ⟨h3, fun x hx => ?_, apU_asc rs k3 b⟩
  rcases apU_mem rs k3 b x hx with h4 | ⟨c, h4, rfl⟩
  · exact k2 x h4
  · exact chOk_parts ((batchOk_of h2).2 c h4)
/-- What a state has under a key. -/
def look (rs : List Pr) (key : ByteArray) : Option ByteArray := (rs.find? (fun x => decide (x.1 = key))).map (·.2)
theorem gRes_look {rs : List Pr} (key : ByteArray) (h : stateOk rs = true) : gRes rs key = look rs key := by unfold gRes look; rw [if_pos h]
theorem find_no {l : List Pr} {key : ByteArray} (h : ∀ x ∈ l, x.1 ≠ key) : l.find? (fun x => decide (x.1 = key)) = none := by
  rw [List.find?_eq_none]
  intro x hx
  simpa using h x hx
theorem look_chF (c : Ch) (rs : List Pr) (h : ascP rs) (key : ByteArray) : look (chF c rs) key = if c.1 = key then (if c.2.2 = true then none else some c.2.1) else look rs key := by
  obtain ⟨a, m, r, e, ha, hm, hr, hc⟩ := chF_split c rs h
  rw [hc]
  unfold look chAt
  by_cases hk : c.1 = key
  · rw [if_pos hk]
    subst hk
    rw [List.find?_append, List.find?_append, find_no (fun x hx => cmpB_ne (ha x hx)), find_no (l := r) (fun x hx => cmpB_ne' (hr x hx))]
    cases c.2.2 <;> simp
  · rw [if_neg hk, e, List.find?_append, List.find?_append, List.find?_append, List.find?_append]
    have h1 : (if c.2.2 = true then [] else [(c.1, c.2.1)] : List Pr).find? (fun x => decide (x.1 = key)) = none := by
      apply find_no
      intro x hx
      split at hx
      · simp at hx
      · simp at hx; subst hx; exact hk
    have h2 : m.find? (fun x => decide (x.1 = key)) = none := by
      apply find_no
      intro x hx
      rcases hm with rfl | ⟨v, rfl⟩
      · simp at hx
      · simp at hx; subst hx; exact hk
    rw [h1, h2]
/-- A key has what its last change says. -/
theorem look_apU (rs : List Pr) (h : ascP rs) (d : Ch) : ∀ (n : Nat) (b : List Ch), b.length = n → ∀ j, j < b.length → (∀ k, j < k → k < b.length → (b.getD k d).1 ≠ (b.getD j d).1) → look (apU rs b) (b.getD j d).1 = if (b.getD j d).2.2 = true then none else some (b.getD j d).2.1
  | 0, b, hb, j, hj, _ => by omega
  | n + 1, b, hb, j, hj, hl => by
    obtain ⟨c, bs, rfl⟩ : ∃ c bs, b = bs ++ [c] := by
      rcases List.eq_nil_or_concat b with h | ⟨l, a, h⟩
      · subst h; simp at hb
      · exact ⟨a, l, by simpa using h⟩
    rw [apU_snoc, look_chF c _ (apU_asc rs h bs)]
    simp only [List.length_append, List.length_singleton] at hj hb hl
    by_cases hjl : j = bs.length
    · subst hjl
      have e : (bs ++ [c]).getD bs.length d = c := by simp [List.getD]
      rw [e, if_pos rfl]
    · have hj' : j < bs.length := by omega
      have e : (bs ++ [c]).getD j d = bs.getD j d := by simp [List.getD, List.getElem?_append_left hj']
      have e2 : (bs ++ [c]).getD bs.length d = c := by simp [List.getD]
      have hne := hl bs.length hj' (by omega)
      rw [e2] at hne
      rw [if_neg hne]
      rw [e]
      refine look_apU rs h d n bs (by omega) j hj' (fun k hk1 hk2 => ?_)
      have := hl k hk1 (by omega)
      have ek : (bs ++ [c]).getD k d = bs.getD k d := by simp [List.getD, List.getElem?_append_left hk2]
      rwa [ek, e] at this
/-- The pairs of a state, put in one behind the other, make it. -/
theorem apU_rows (rs : List Pr) (h : ascP rs) (i : Nat) : ∀ n, i + n ≤ rs.length → apU (rs.take i) (((rs.drop i).take n).map chOf) = rs.take (i + n)
  | 0, _ => by simp [apU]
  | n + 1, hn => by
    have hd : n < (rs.drop i).length := by rw [List.length_drop]; omega
    rw [List.take_succ_eq_append_getElem hd, List.map_append, List.map_singleton, apU_snoc, apU_rows rs h i n (by omega)]
    rw [List.getElem_drop]
    have hh := h
    unfold ascP at hh
    rw [List.pairwise_iff_getElem] at hh
    have hin : i + n < rs.length := by omega
    have hc := chF_at (chOf (rs[i + n]'hin)) (rs.take (i + n)) [] [] (fun x hx => by
      obtain ⟨j, hj, rfl⟩ := List.getElem_of_mem hx
      rw [List.length_take] at hj
      rw [List.getElem_take]
      exact hh j (i + n) (by omega) hin (by omega)) (.inl rfl) (by simp)
    rw [List.append_nil, List.append_nil] at hc
    rw [hc]
    unfold chAt chOf
    simp
    rw [show i + (n + 1) = (i + n) + 1 by omega, List.take_succ_eq_append_getElem hin]
theorem take_ok {rs : List Pr} (h : stateOk rs = true) (i : Nat) : stateOk (rs.take i) = true := by
  obtain ⟨h1, h2, h3⟩ := (stateOk_iff rs).1 h
  refine (stateOk_iff _).2 ⟨by rw [List.length_take]; omega, fun x hx => h2 x (List.mem_of_mem_take hx), ?_⟩
  unfold ascP at *
  exact h3.sublist (List.take_sublist _ _)
theorem chunk_ok {rs : List Pr} (h : stateOk rs = true) (k : Nat) (hk : k * 20 < rs.length) : batchOk (chunkAt rs k) = true := by
  obtain ⟨h1, h2, h3⟩ := (stateOk_iff rs).1 h
  refine batchOk_yes (by rw [chunk_len]; omega) (fun x hx => ?_)
  unfold chunkAt at hx
  obtain ⟨p, hp, rfl⟩ := List.mem_map.1 hx
  have := h2 p (List.mem_of_mem_drop (List.mem_of_mem_take hp))
  unfold chOk chOf
  simp [this.1, this.2]
theorem chunk_ap {rs : List Pr} (h : stateOk rs = true) (k : Nat) (hk : k * 20 < rs.length) : apC (rs.take (k * 20)) (chunkAt rs k) = 0 ∧ apR (rs.take (k * 20)) (chunkAt rs k) = rs.take ((k + 1) * 20) := by
  obtain ⟨h1, h2, h3⟩ := (stateOk_iff rs).1 h
  have e : apU (rs.take (k * 20)) (chunkAt rs k) = rs.take ((k + 1) * 20) := by
    have hm : k * 20 + min 20 (rs.length - k * 20) ≤ rs.length := by omega
    have := apU_rows rs h3 (k * 20) (min 20 (rs.length - k * 20)) hm
    have e1 : ((rs.drop (k * 20)).take (min 20 (rs.length - k * 20))) = ((rs.drop (k * 20)).take 20) := by
      rw [← List.length_drop]
      rw [← List.take_take, List.take_length]
    rw [e1] at this
    unfold chunkAt
    rw [this]
    by_cases hl : (k + 1) * 20 ≤ rs.length
    · congr 1; omega
    · rw [List.take_of_length_le (by omega), List.take_of_length_le (by omega)]
  have e0 : apC (rs.take (k * 20)) (chunkAt rs k) = 0 := by
    unfold apC
    rw [take_ok h, chunk_ok h k hk, e, if_pos (by simp), if_pos (by rw [List.length_take]; omega)]
  exact ⟨e0, by unfold apR; rw [if_pos e0, e]⟩
end Go.Proofs.Ytnmaknnnmjfhkad
