import Derived.Test.YtnmaknnnmjfhkagGreatDoorMhXOpen1
namespace Go.Proofs.YtnmaknnnmjfhkagGreatDoor
open Go.RowKit
set_option linter.unusedVariables false
set_option linter.unusedSimpArgs false

abbrev Ch := ByteArray × ByteArray × Bool
/-- The first byte of a text, as a number (0 if there is none). -/
def b0 (r : ByteArray) : Nat := (r.data.toList.getD 0 0).toNat
theorem b0_lt (r : ByteArray) : b0 r ≤ 255 := by unfold b0; have := UInt8.toNat_lt (r.data.toList.getD 0 0); omega
theorem nums_extractR (r : ByteArray) (a b : Nat) : nums (r.extract a b) = ((nums r).drop a).take (b - a) := by
  unfold nums
  rw [ByteArray.data_extract, Array.toList_extract, List.extract_eq_take_drop, List.map_take, List.map_drop]
theorem nums_head (r : ByteArray) (h : 0 < r.size) : nums r = (b0 r : Int) :: (nums r).drop 1 := by
  have hl : 0 < r.data.toList.length := h
  unfold nums b0
  match r.data.toList, hl with
  | x :: l, _ => simp
theorem nums_inj {r s : ByteArray} (h : nums r = nums s) : r = s := by rw [← strOfNums_nums r, h, strOfNums_nums]
theorem nums_empty : nums ByteArray.empty = [] := rfl
theorem nums_range (r : ByteArray) : ∀ y ∈ nums r, 0 ≤ y ∧ y ≤ 255 := by
  intro y hy
  unfold nums at hy
  obtain ⟨c, _, rfl⟩ := List.mem_map.1 hy
  have := UInt8.toNat_lt c
  omega
theorem nums_strOfNumsR : ∀ (xs : List Int), (∀ y ∈ xs, 0 ≤ y ∧ y ≤ 255) → nums (strOfNums xs) = xs
  | [], _ => rfl
  | x :: l, h => by
    have ih := nums_strOfNumsR l (fun y hy => h y (List.mem_cons_of_mem _ hy))
    have hx := h x (List.mem_cons_self)
    simp only [nums, strOfNums] at ih ⊢
    simp only [List.map_cons, List.map_map, List.toList_toArray] at ih ⊢
    simp [List.map_eq_map_iff] at ih ⊢
    constructor
    · omega
    · exact ih

/-- A text behind its size, taken off the front. -/
def pc (r : ByteArray) : Option (ByteArray × ByteArray) := if 1 ≤ r.size ∧ 1 + b0 r ≤ r.size then some (r.extract 1 (1 + b0 r), r.extract (1 + b0 r) r.size) else none
theorem pc_some {r k m : ByteArray} (h : pc r = some (k, m)) : nums r = [(k.size : Int)] ++ nums k ++ nums m ∧ k.size ≤ 255 := by
  unfold pc at h
  split at h
  · rename_i hc
    simp only [Option.some.injEq, Prod.mk.injEq] at h
    obtain ⟨rfl, rfl⟩ := h
    have hk : (r.extract 1 (1 + b0 r)).size = b0 r := by simp only [ByteArray.size_extract]; omega
    refine ⟨?_, by rw [hk]; exact b0_lt r⟩
    rw [hk, nums_extractR, nums_extractR]
    have hn := nums_head r (by omega)
    have e1 : r.size - (1 + b0 r) = (nums r).length - (1 + b0 r) := by rw [nums_length]
    rw [e1, ← List.length_drop, List.take_length]
    have e2 : 1 + b0 r - 1 = b0 r := by omega
    rw [e2]
    have e3 : (nums r).drop (1 + b0 r) = ((nums r).drop 1).drop (b0 r) := by rw [List.drop_drop]
    rw [e3, List.append_assoc, List.take_append_drop]
    exact hn
  · cases h
/-- A change, taken off the front of a text, whatever its first byte. -/
def stp (r : ByteArray) : Option (Ch × ByteArray) :=
  match pc (r.extract 1 r.size) with
  | none => none
  | some (k, m) => if b0 r = 1 then some ((k, ByteArray.empty, true), m) else
    match pc m with
    | none => none
    | some (v, m') => some ((k, v, false), m')
theorem nums_tail (r : ByteArray) : nums (r.extract 1 r.size) = (nums r).drop 1 := by
  rw [nums_extractR]
  have e1 : r.size - 1 = ((nums r).drop 1).length := by rw [List.length_drop, nums_length]
  rw [e1, List.take_length]
theorem stp_some {r r1 : ByteArray} {c : Ch} (hr : 0 < r.size) (h : stp r = some (c, r1)) : c.1.size ≤ 255 ∧ c.2.1.size ≤ 255 ∧ ∃ t, chN c ++ nums r1 = (if b0 r = 1 then 1 else 0) :: t ∧ nums r = (b0 r : Int) :: t := by
  unfold stp at h
  split at h
  · cases h
  · rename_i k m hp
    obtain ⟨h1, h2⟩ := pc_some hp
    rw [nums_tail] at h1
    have hn := nums_head r hr
    split at h
    · rename_i hb
      simp only [Option.some.injEq, Prod.mk.injEq] at h
      obtain ⟨rfl, rfl⟩ := h
      refine ⟨h2, by simp, _, ?_, hn⟩
      rw [h1, if_pos hb]
      simp [chN]
    · rename_i hb
      split at h
      · cases h
      · rename_i v m' hq
        obtain ⟨h3, h4⟩ := pc_some hq
        simp only [Option.some.injEq, Prod.mk.injEq] at h
        obtain ⟨rfl, rfl⟩ := h
        refine ⟨h2, h4, _, ?_, hn⟩
        rw [h1, h3, if_neg hb]
        simp [chN]

/-- The changes that a text begins with, so many at most, read loosely. -/
def run : Nat → ByteArray → List Ch → Option (List Ch × ByteArray)
  | 0, r, o => some (o, r)
  | n + 1, r, o => if r.size = 0 then some (o, r) else
    match stp r with
    | none => none
    | some (c, r') => run n r' (o ++ [c])
/-- The same, where each first byte is 0 or 1. -/
def runI : Nat → ByteArray → List Ch → Option (List Ch × ByteArray)
  | 0, r, o => some (o, r)
  | n + 1, r, o => if r.size = 0 then some (o, r) else if 1 < b0 r then none else
    match stp r with
    | none => none
    | some (c, r') => runI n r' (o ++ [c])
theorem run_nil (n : Nat) (o : List Ch) (r : ByteArray) (h : r.size = 0) : run n r o = some (o, r) := by cases n <;> simp [run, h]
theorem run_facts : ∀ (n : Nat) (r : ByteArray) (o o' : List Ch) (r' : ByteArray), run n r o = some (o', r') →
    ∃ l, o' = o ++ l ∧ (∀ x ∈ l, x.1.size ≤ 255 ∧ x.2.1.size ≤ 255) ∧ (r'.size = 0 ∨ l.length = n) ∧
      ((runI n r o = some (o', r') ∧ l.flatMap chN ++ nums r' = nums r) ∨ (runI n r o = none ∧ ∀ z, l.flatMap chN ++ z ≠ nums r))
  | 0, r, o, o', r', h => by
    simp only [run, Option.some.injEq, Prod.mk.injEq] at h
    obtain ⟨rfl, rfl⟩ := h
    exact ⟨[], by simp, by simp, .inr rfl, .inl ⟨rfl, by simp⟩⟩
  | n + 1, r, o, o', r', h => by
    by_cases hz : r.size = 0
    · rw [run, if_pos hz] at h
      simp only [Option.some.injEq, Prod.mk.injEq] at h
      obtain ⟨rfl, rfl⟩ := h
      exact ⟨[], by simp, by simp, .inl hz, .inl ⟨by rw [runI, if_pos hz], by simp⟩⟩
    · rw [run, if_neg hz] at h
      cases hs : stp r with
      | none => rw [hs] at h; cases h
      | some p =>
        obtain ⟨c, r1⟩ := p
        rw [hs] at h
        obtain ⟨k1, k2, t, k3, k4⟩ := stp_some (by omega) hs
        obtain ⟨l, e1, e2, e3, e4⟩ := run_facts n r1 (o ++ [c]) o' r' h
        refine ⟨c :: l, by rw [e1]; simp, fun x hx => ?_, ?_, ?_⟩
        · rcases List.mem_cons.1 hx with rfl | hx
          · exact ⟨k1, k2⟩
          · exact e2 x hx
        · rcases e3 with e3 | e3
          · exact .inl e3
          · exact .inr (by simp [e3])
        · by_cases hb : 1 < b0 r
          · refine .inr ⟨by rw [runI, if_neg hz, if_pos hb], fun z hzz => ?_⟩
            have hb1 : ¬ b0 r = 1 := by omega
            rw [if_neg hb1] at k3
            have hc : ∃ u, chN c = 0 :: u := by
              have : c.2.2 = false := by
                unfold stp at hs
                split at hs
                · cases hs
                · rw [if_neg hb1] at hs
                  split at hs
                  · cases hs
                  · simp only [Option.some.injEq, Prod.mk.injEq] at hs
                    rw [← hs.1]
              exact ⟨_, by unfold chN; rw [this]; rfl⟩
            obtain ⟨u, hu⟩ := hc
            rw [List.flatMap_cons, hu, k4] at hzz
            simp at hzz
            omega
          · have hr : nums r = chN c ++ nums r1 := by
              rw [k3, k4]
              split
              · rename_i h1; rw [h1]; rfl
              · have : b0 r = 0 := by omega
                rw [this]; rfl
            have hri : runI (n + 1) r o = runI n r1 (o ++ [c]) := by rw [runI, if_neg hz, if_neg hb, hs]
            rcases e4 with ⟨e4, e5⟩ | ⟨e4, e5⟩
            · refine .inl ⟨hri.trans e4, ?_⟩
              rw [List.flatMap_cons, List.append_assoc, e5, hr]
            · refine .inr ⟨hri.trans e4, fun z hzz => e5 z ?_⟩
              rw [List.flatMap_cons, List.append_assoc, hr] at hzz
              exact List.append_cancel_left hzz
theorem runI_none : ∀ (n : Nat) (r : ByteArray) (o : List Ch), run n r o = none → runI n r o = none
  | 0, r, o, h => by simp [run] at h
  | n + 1, r, o, h => by
    by_cases hz : r.size = 0
    · rw [run, if_pos hz] at h; cases h
    · rw [run, if_neg hz] at h
      rw [runI, if_neg hz]
      split
      · rfl
      · cases hs : stp r with
        | none => rfl
        | some p =>
          obtain ⟨c, r1⟩ := p
          rw [hs] at h
          exact runI_none n r1 _ h
theorem chN_range (x : Ch) (h1 : x.1.size ≤ 255) (h2 : x.2.1.size ≤ 255) : ∀ y ∈ chN x, 0 ≤ y ∧ y ≤ 255 := by
  intro y hy
  unfold chN at hy
  split at hy
  · simp only [List.mem_append, List.mem_cons, List.not_mem_nil, or_false] at hy
    rcases hy with rfl | rfl | hy
    · omega
    · omega
    · exact nums_range _ y hy
  · simp only [List.mem_append, List.mem_cons, List.not_mem_nil, or_false] at hy
    rcases hy with (rfl | rfl | hy) | rfl | hy
    · omega
    · omega
    · exact nums_range _ y hy
    · omega
    · exact nums_range _ y hy
/-- What ReadBatch reads. -/
def resS (s : ByteArray) : Option (List Ch) := match run 21 s [] with | none => none | some (o, _) => if s.size ≠ 0 ∧ bOut o = s then some o else none
def resI (s : ByteArray) : Option (List Ch) := match runI 21 s [] with | none => none | some (o, _) => if batchOk o = true then some o else none
theorem res_eq (s : ByteArray) : resI s = resS s := by
  unfold resI resS
  cases hr : run 21 s [] with
  | none => rw [runI_none _ _ _ hr]
  | some p =>
    obtain ⟨o, r⟩ := p
    obtain ⟨l, e1, e2, e3, e4⟩ := run_facts 21 s [] o r hr
    rw [List.nil_append] at e1
    subst e1
    have hrg : ∀ y ∈ o.flatMap chN, 0 ≤ y ∧ y ≤ 255 := by
      intro y hy
      obtain ⟨x, hx, hy⟩ := List.mem_flatMap.1 hy
      exact chN_range x (e2 x hx).1 (e2 x hx).2 y hy
    have hbf : bForm o = s → o.flatMap chN = nums s := fun h => by rw [← h]; exact (nums_strOfNumsR _ hrg).symm
    rcases e4 with ⟨e4, e5⟩ | ⟨e4, e5⟩
    · rw [e4]
      simp only
      by_cases hok : batchOk o = true
      · have hr0 : r.size = 0 := by
          rcases e3 with e3 | e3
          · exact e3
          · have := (batchOk_of hok).1; omega
        have hnr : nums r = [] := List.eq_nil_of_length_eq_zero (by rw [nums_length]; exact hr0)
        rw [hnr, List.append_nil] at e5
        have hs : bOut o = s := by
          unfold bOut
          rw [if_pos hok]
          apply nums_inj
          rw [← e5]
          exact nums_strOfNumsR _ hrg
        have hs0 : s.size ≠ 0 := by
          intro h0
          have hns : nums s = [] := List.eq_nil_of_length_eq_zero (by rw [nums_length]; exact h0)
          rw [hns] at e5
          match o, (batchOk_of hok).1 with
          | x :: o', _ =>
            simp only [List.flatMap_cons, List.append_eq_nil_iff] at e5
            have := e5.1
            unfold chN at this
            split at this <;> simp at this
        rw [if_pos hok, if_pos ⟨hs0, hs⟩]
      · have hb : bOut o = ByteArray.empty := by unfold bOut; rw [if_neg hok]
        rw [if_neg hok, if_neg]
        rintro ⟨h1, h2⟩
        rw [hb] at h2
        rw [← h2] at h1
        exact h1 rfl
    · rw [e4]
      simp only
      rw [if_neg]
      rintro ⟨h1, h2⟩
      unfold bOut at h2
      split at h2
      · have := hbf h2
        exact e5 [] (by rw [List.append_nil]; exact this)
      · rw [← h2] at h1
        exact h1 rfl
end Go.Proofs.YtnmaknnnmjfhkagGreatDoor
