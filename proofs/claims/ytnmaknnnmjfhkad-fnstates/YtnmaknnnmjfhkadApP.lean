import Derived.Test.YtnmaknnnmjfhkadGtF
import Derived.Test.YtnmaknnnmjfhkadSnP
namespace Go.Proofs.Ytnmaknnnmjfhkad
open Go.RowKit Go.Sort
set_option maxRecDepth 4000
set_option linter.unusedVariables false
set_option linter.unusedSimpArgs false

theorem cb_anti : ∀ (x y : List UInt8), 0 < Lib.compareBytes x y → Lib.compareBytes y x < 0
  | [], [] => by simp [Lib.compareBytes]
  | [], b :: l2 => by simp [Lib.compareBytes]
  | a :: l, [] => by simp [Lib.compareBytes]
  | a :: l, b :: l2 => by
    unfold Lib.compareBytes
    intro h
    by_cases h1 : a < b
    · simp [h1] at h
    · by_cases h2 : b < a
      · simp [h2]
      · simp only [h1, h2, if_false] at h ⊢
        exact cb_anti l l2 h
theorem cmpB_anti {a b : ByteArray} (h : 0 < cmpB a b) : klt b a = true := by
  have := cb_anti _ _ h
  exact (cmpB_lt b a).1 this
theorem cmpB_self (a : ByteArray) : cmpB a a = 0 := (cmpB_zero a a).2 rfl
theorem klt_no {a b : ByteArray} (h : cmpB a b < 0) : klt b a = false := by
  cases hk : klt b a with
  | false => rfl
  | true =>
    have h2 : cmpB b a < 0 := (cmpB_lt b a).2 hk
    have h3 := cmpB_trans a b a h h2
    rw [cmpB_self] at h3
    omega
theorem klt_self (a : ByteArray) : klt a a = false := by
  cases hk : klt a a with
  | false => rfl
  | true =>
    have h2 : cmpB a a < 0 := (cmpB_lt a a).2 hk
    rw [cmpB_self] at h2
    omega
/-- One pair of the document's change. -/
def stepC (key val : ByteArray) (st : Bool × List Pr) (p : Pr) : Bool × List Pr :=
  if p.1 = key then (if (!st.1 && klt key p.1) = true then (true, st.2 ++ [(key, val)]) else st)
  else (if (!st.1 && klt key p.1) = true then (true, st.2 ++ [(key, val)] ++ [p]) else (st.1, st.2 ++ [p]))
def chW (c : Ch) (rs : List Pr) : Bool × List Pr := rs.foldl (stepC c.1 c.2.1) (c.2.2, [])
/-- A change that is made. -/
def chF (c : Ch) (rs : List Pr) : List Pr := if (chW c rs).1 = true then (chW c rs).2 else (chW c rs).2 ++ [(c.1, c.2.1)]
theorem chW_snoc (c : Ch) (rs : List Pr) (p : Pr) : chW c (rs ++ [p]) = stepC c.1 c.2.1 (chW c rs) p := by unfold chW; rw [List.foldl_append]; rfl
def ascP (rs : List Pr) : Prop := rs.Pairwise fun x y => cmpB x.1 y.1 < 0
theorem stepA (key val : ByteArray) : ∀ (l : List Pr) (g : Bool) (out : List Pr), (∀ x ∈ l, cmpB x.1 key < 0) → l.foldl (stepC key val) (g, out) = (g, out ++ l)
  | [], g, out, _ => by simp
  | x :: l, g, out, h => by
    have hx := h x List.mem_cons_self
    have hne : ¬ x.1 = key := fun e => by rw [e, cmpB_self] at hx; omega
    rw [List.foldl_cons, stepC, if_neg hne, klt_no hx, Bool.and_false, if_neg (by simp)]
    rw [stepA key val l g (out ++ [x]) (fun y hy => h y (List.mem_cons_of_mem _ hy)), List.append_assoc]
    rfl
theorem stepB (key val : ByteArray) : ∀ (l : List Pr) (out : List Pr), (∀ x ∈ l, 0 < cmpB x.1 key) → l.foldl (stepC key val) (true, out) = (true, out ++ l)
  | [], out, _ => by simp
  | x :: l, out, h => by
    have hx := h x List.mem_cons_self
    have hne : ¬ x.1 = key := fun e => by rw [e, cmpB_self] at hx; omega
    rw [List.foldl_cons, stepC, if_neg hne, if_neg (by simp)]
    rw [stepB key val l (out ++ [x]) (fun y hy => h y (List.mem_cons_of_mem _ hy)), List.append_assoc]
    rfl
/-- The pairs ahead of a key, what is put in, and the pairs behind it. -/
def chAt (c : Ch) (a r : List Pr) : List Pr := a ++ (if c.2.2 = true then [] else [(c.1, c.2.1)]) ++ r
theorem chF_at (c : Ch) (a m r : List Pr) (ha : ∀ x ∈ a, cmpB x.1 c.1 < 0) (hm : m = [] ∨ ∃ v, m = [(c.1, v)]) (hr : ∀ x ∈ r, 0 < cmpB x.1 c.1) : chF c (a ++ m ++ r) = chAt c a r := by
  obtain ⟨key, val, g⟩ := c
  have e1 : chW (key, val, g) (a ++ m ++ r) = r.foldl (stepC key val) (g, a) := by
    unfold chW
    rw [List.append_assoc, List.foldl_append, stepA key val a g [] ha, List.nil_append, List.foldl_append]
    rcases hm with rfl | ⟨v, rfl⟩
    · rfl
    · rw [List.foldl_cons, List.foldl_nil, stepC, if_pos rfl, klt_self, Bool.and_false, if_neg (by simp)]
  unfold chF chAt
  rw [e1]
  cases g with
  | true => rw [stepB key val r a hr]; simp
  | false =>
    cases r with
    | nil => simp
    | cons x l =>
      have hx := hr x List.mem_cons_self
      have hne : ¬ x.1 = key := fun e => by rw [e, cmpB_self] at hx; omega
      rw [List.foldl_cons, stepC, if_neg hne]
      simp only [Bool.not_false, Bool.true_and]
      rw [cmpB_anti hx, if_pos rfl, stepB key val l _ (fun y hy => hr y (List.mem_cons_of_mem _ hy))]
      simp
theorem chAt_asc (c : Ch) (a m r : List Pr) (h : ascP (a ++ m ++ r)) (ha : ∀ x ∈ a, cmpB x.1 c.1 < 0) (hr : ∀ x ∈ r, 0 < cmpB x.1 c.1) : ascP (chAt c a r) := by
  unfold ascP chAt at *
  rw [List.pairwise_append, List.pairwise_append] at h
  obtain ⟨⟨h1, h2, h3⟩, h4, h5⟩ := h
  have har : ∀ x ∈ a, ∀ y ∈ r, cmpB x.1 y.1 < 0 := fun x hx y hy => h5 x (List.mem_append_left _ hx) y hy
  have hkr : ∀ y ∈ r, cmpB c.1 y.1 < 0 := fun y hy => (cmpB_lt _ _).2 (cmpB_anti (hr y hy))
  by_cases hg : c.2.2 = true
  · rw [if_pos hg, List.append_nil, List.pairwise_append]
    exact ⟨h1, h4, har⟩
  · rw [if_neg hg, List.pairwise_append, List.pairwise_append]
    refine ⟨⟨h1, by simp, fun x hx y hy => ?_⟩, h4, fun x hx y hy => ?_⟩
    · simp at hy; subst hy; exact ha x hx
    · rw [List.mem_append] at hx
      rcases hx with hx | hx
      · exact har x hx y hy
      · simp at hx; subst hx; exact hkr y hy
theorem getD_at {α : Type} (rs : List α) (i : Nat) (h : i < rs.length) {d : α} : rs.getD i d = rs[i] := by simp [List.getD, h]
theorem asc_of {rs : List Pr} (h : stateOk rs = true) : ascP rs := by
  unfold ascP
  rw [List.pairwise_iff_getElem]
  intro i j hi hj hij
  have := asc' h hij hj
  unfold kAt at this
  rwa [getD_at _ _ hi, getD_at _ _ hj] at this
theorem asc_mono {rs : List Pr} (h : ascP rs) (key : ByteArray) : ∀ t m, t ≤ m → m < rs.length → cmpB (kAt rs m) key < 0 → cmpB (kAt rs t) key < 0 := fun t m ht hm hk => by
  rcases Nat.eq_or_lt_of_le ht with e | e
  · subst e; exact hk
  · unfold ascP at h
    rw [List.pairwise_iff_getElem] at h
    have := h t m (by omega) hm e
    unfold kAt at *
    rw [getD_at _ _ hm] at hk
    rw [getD_at _ _ (by omega)]
    exact cmpB_trans _ _ _ this hk
/-- A state parted at a place that find tells. -/
theorem part_at {rs : List Pr} (h : ascP rs) (key : ByteArray) (p : Nat) (hp : p ≤ rs.length) (h1 : ∀ t, t < p → cmpB (kAt rs t) key < 0) (h2 : ∀ t, p ≤ t → t < rs.length → 0 ≤ cmpB (kAt rs t) key) (d : Nat) (hd : d = if p < rs.length ∧ cmpB (kAt rs p) key = 0 then 1 else 0) :
    rs = rs.take p ++ (rs.drop p).take d ++ rs.drop (p + d) ∧ (∀ x ∈ rs.take p, cmpB x.1 key < 0) ∧ ((rs.drop p).take d = [] ∨ ∃ v, (rs.drop p).take d = [(key, v)]) ∧ (∀ x ∈ rs.drop (p + d), 0 < cmpB x.1 key) := by
  have hasc := h
  unfold ascP at h
  rw [List.pairwise_iff_getElem] at h
  refine ⟨?_, ?_, ?_, ?_⟩
  · rw [List.append_assoc, ← List.drop_drop, List.take_append_drop, List.take_append_drop]
  · intro x hx
    obtain ⟨i, hi, rfl⟩ := List.getElem_of_mem hx
    rw [List.length_take] at hi
    have := h1 i (by omega)
    unfold kAt at this
    rw [getD_at _ _ (by omega)] at this
    rw [List.getElem_take]
    exact this
  · by_cases hc : p < rs.length ∧ cmpB (kAt rs p) key = 0
    · rw [if_pos hc] at hd
      subst hd
      right
      have e := (cmpB_zero _ _).1 hc.2
      unfold kAt at e
      rw [getD_at _ _ hc.1] at e
      refine ⟨(rs[p]'hc.1).2, ?_⟩
      rw [List.drop_eq_getElem_cons hc.1, List.take_succ_cons, List.take_zero]
      exact congrArg (fun k => [k]) (Prod.ext e rfl)
    · rw [if_neg hc] at hd
      subst hd
      exact .inl (by simp)
  · intro x hx
    obtain ⟨i, hi, rfl⟩ := List.getElem_of_mem hx
    rw [List.length_drop] at hi
    rw [List.getElem_drop]
    have hq := h2 (p + d + i) (by omega) (by omega)
    unfold kAt at hq
    rw [getD_at _ _ (by omega)] at hq
    rcases Int.lt_or_eq_of_le hq with h3 | h3
    · exact h3
    · exfalso
      have e := (cmpB_zero _ _).1 h3.symm
      by_cases hi0 : d + i = 0
      · have hd0 : d = 0 := by omega
        have hi0 : i = 0 := by omega
        subst hi0
        rw [hd0] at hd
        by_cases hc : p < rs.length ∧ cmpB (kAt rs p) key = 0
        · rw [if_pos hc] at hd; cases hd
        · refine hc ⟨by omega, ?_⟩
          unfold kAt
          rw [getD_at _ _ (by omega)]
          subst hd0
          exact h3.symm
      · have h4 := h p (p + d + i) (by omega) (by omega) (by omega)
        rw [e] at h4
        have h5 := h2 p (Nat.le_refl _) (by omega)
        unfold kAt at h5
        rw [getD_at _ _ (by omega)] at h5
        omega
/-- A batch that is applied, whatever its size. -/
def apU (rs : List Pr) (b : List Ch) : List Pr := b.foldl (fun s c => chF c s) rs
theorem apU_snoc (rs : List Pr) (b : List Ch) (c : Ch) : apU rs (b ++ [c]) = chF c (apU rs b) := by unfold apU; rw [List.foldl_append]; rfl
/-- What Apply gives: the pairs and the code. -/
def apC (rs : List Pr) (b : List Ch) : Int := if (stateOk rs && batchOk b) = true then (if (apU rs b).length ≤ 100 then 0 else 2) else 1
def apR (rs : List Pr) (b : List Ch) : List Pr := if apC rs b = 0 then apU rs b else []
theorem chW_len (c : Ch) : ∀ (rs : List Pr) (k : Nat), k = rs.length → (chW c rs).2.length ≤ rs.length + (if (chW c rs).1 = true ∧ c.2.2 = false then 1 else 0) ∧ (c.2.2 = true → (chW c rs).1 = true)
  | rs, 0, hk => by rw [List.eq_nil_of_length_eq_zero hk.symm]; simp [chW]
  | rs, k + 1, hk => by
    obtain ⟨b, bs, rfl⟩ : ∃ b bs, rs = bs ++ [b] := by
      rcases List.eq_nil_or_concat rs with h | ⟨l, a, h⟩
      · subst h; simp at hk
      · exact ⟨a, l, by simpa using h⟩
    have ih := chW_len c bs k (by simp at hk; omega)
    rw [chW_snoc]
    obtain ⟨key, val, g⟩ := c
    generalize chW (key, val, g) bs = st at ih ⊢
    obtain ⟨d, out⟩ := st
    unfold stepC
    rw [List.length_append, List.length_singleton]
    have hk3 := klt_self key
    cases d <;> cases hk2 : klt key b.1 <;> by_cases he : b.1 = key <;> cases g <;> simp [he, hk2, hk3] at ih hk2 ⊢ <;> omega
theorem chF_len (c : Ch) (rs : List Pr) : (chF c rs).length ≤ rs.length + 1 := by
  have := (chW_len c rs _ rfl).1
  unfold chF
  split
  · split at this <;> omega
  · rename_i h
    rw [if_neg (fun e => h e.1)] at this
    rw [List.length_append]
    simp
    omega
theorem apU_len (rs : List Pr) (b : List Ch) : ∀ k, (apU rs (b.take k)).length ≤ rs.length + k
  | 0 => by simp [apU]
  | k + 1 => by
    have ih := apU_len rs b k
    by_cases h : k < b.length
    · rw [List.take_succ_eq_append_getElem h, apU_snoc]
      have := chF_len b[k] (apU rs (b.take k))
      omega
    · rw [List.take_of_length_le (by omega)] at ih ⊢
      omega
end Go.Proofs.Ytnmaknnnmjfhkad
