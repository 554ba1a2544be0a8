import Derived.Test.YtnmaknnnmjfhkacSnI
import Derived.Test.YtnmaknnnmjfhkacMkC
import Derived.Test.YtnmaknnnmjfhkacChE
namespace Go.Proofs.Ytnmaknnnmjfhkac
open Go.RowKit
set_option maxRecDepth 4000
set_option linter.unusedVariables false
set_option linter.unusedSimpArgs false

/-- Batches, each in a block of its own. -/
structure Bk (w : World) (base g n : Nat) (ps : Nat → Option Addr) (cs ns : Nat → Nat) (bs : Nat → List Ch) : Prop where
  lt : g < w.heap.size
  gge : base ≤ g
  cell : ∀ i, i < n → w.cell? ⟨g, i, none⟩ = some (.slice (ps i) (ns i) (cs i))
  len : ∀ i, i < n → (bs i).length = ns i
  own : ∀ i, i < n → OwnS w (ps i) (chcells (bs i))
  rng : ∀ i k, i < n → blk (ps i) (ns i) = some k → base ≤ k ∧ k ≠ g
  apart : ∀ i j k, i < j → j < n → blk (ps i) (ns i) = some k → blk (ps j) (ns j) ≠ some k
theorem Bk.below {w w' : World} {base g n : Nat} {ps : Nat → Option Addr} {cs ns : Nat → Nat} {bs : Nat → List Ch} (h : Bk w base g n ps cs ns bs) (hb : Below w.heap.size w w') : Bk w' base g n ps cs ns bs :=
  ⟨Nat.lt_of_lt_of_le h.lt hb.size, h.gge, fun i hi => (hb.cell (p := ⟨g, i, none⟩) h.lt).trans (h.cell i hi), h.len, fun i hi => (h.own i hi).below hb, h.rng, h.apart⟩
theorem ch_ne {l : List Ch} (h : chcells l ≠ []) : l.length ≠ 0 := fun e => h (by rw [List.eq_nil_of_length_eq_zero e]; rfl)
theorem ch_ne' {l : List Ch} (h : l.length ≠ 0) : chcells l ≠ [] := fun e => h (by have := congrArg List.length e; rw [chcells_length, List.length_nil] at this; omega)
theorem Bk.grown {w w' : World} {base g n : Nat} {ps : Nat → Option Addr} {cs ns : Nat → Nat} {bs : Nat → List Ch} {r : Option Nat} (h : Bk w base g n ps cs ns bs) (hg : w.grownBy w' r) (hr : ∀ k, r = some k → k < base) : Bk w' base g n ps cs ns bs := by
  refine ⟨Nat.lt_of_lt_of_le h.lt hg.size, h.gge, fun i hi => (World.cell?_of_block (a := ⟨g, i, none⟩) (hg.block g h.lt (fun e => by have := hr g e.symm; have := h.gge; omega))).trans (h.cell i hi), h.len, fun i hi => (h.own i hi).grown hg (fun k hk hne e => ?_), h.rng, h.apart⟩
  have h1 := hr k e.symm
  have h2 := h.rng i k hi (by rw [hk]; exact blk_pos k 0 _ (by rw [← h.len i hi]; exact ch_ne hne))
  omega
/-- With which number the marks of batch j begin. -/
def mks (k : Nat) (ns : Nat → Nat) : Nat → Nat
  | 0 => k
  | j + 1 => mks k ns j + 3 * ns j
def mbs (k : Nat) (ns : Nat → Nat) (bs : Nat → List Ch) (j : Nat) : Nat → List Ch := fun i => if i < j then chmarks (mks k ns i) (ns i) else bs i
theorem mks_le (k : Nat) (ns : Nat → Nat) (n : Nat) (hn : ∀ i, i < n → ns i ≤ 20) : ∀ j, j ≤ n → k ≤ mks k ns j ∧ mks k ns j ≤ k + 60 * j
  | 0, _ => ⟨Nat.le_refl _, Nat.le_refl _⟩
  | j + 1, h => by
    have ih := mks_le k ns n hn j (by omega)
    have := hn j (by omega)
    simp only [mks]
    omega
/-- One batch is marked. -/
theorem Bk.mark {w w' : World} {base g n k j : Nat} {ps : Nat → Option Addr} {cs ns : Nat → Nat} {bs : Nat → List Ch} (h : Bk w base g n ps cs ns (mbs k ns bs j)) (hj : j < n) (hg : w.grownBy w' (blk (ps j) (ns j))) (ho : OwnS w' (ps j) (chcells (chmarks (mks k ns j) (ns j)))) : Bk w' base g n ps cs ns (mbs k ns bs (j + 1)) := by
  refine ⟨Nat.lt_of_lt_of_le h.lt hg.size, h.gge, fun i hi => (World.cell?_of_block (a := ⟨g, i, none⟩) (hg.block g h.lt (fun e => (h.rng j g hj e.symm).2 rfl))).trans (h.cell i hi), fun i hi => ?_, fun i hi => ?_, h.rng, h.apart⟩
  · have := h.len i hi
    unfold mbs at this ⊢
    by_cases h1 : i < j
    · rw [if_pos h1] at this; rw [if_pos (by omega)]; exact this
    · by_cases h2 : i = j
      · subst h2; rw [if_pos (by omega), chmarks_length]
      · rw [if_neg h1] at this; rw [if_neg (by omega)]; exact this
  · by_cases h2 : i = j
    · subst h2
      have : mbs k ns bs (i + 1) i = chmarks (mks k ns i) (ns i) := by unfold mbs; rw [if_pos (by omega)]
      rw [this]; exact ho
    · have e : mbs k ns bs (j + 1) i = mbs k ns bs j i := by
        unfold mbs
        by_cases h1 : i < j
        · rw [if_pos h1, if_pos (by omega)]
        · rw [if_neg h1, if_neg (by omega)]
      rw [e]
      refine (h.own i hi).grown hg (fun q hq hne e => ?_)
      have hb : blk (ps i) (ns i) = some q := by rw [hq]; exact blk_pos q 0 _ (by rw [← h.len i hi]; exact ch_ne hne)
      rcases Nat.lt_or_gt_of_ne h2 with h3 | h3
      · exact h.apart i j q h3 hj hb e.symm
      · exact h.apart j i q h3 hi e.symm hb
theorem Bat.bk {w : World} {base : Nat} {v : Value} {bss : List (List Ch)} (h : Bat w base v bss) (hn : bss ≠ []) : ∃ g c ps cs, v = .slice (some ⟨g, 0, none⟩) bss.length c ∧ Bk w base g bss.length ps cs (fun i => (bss.getD i []).length) (fun i => bss.getD i []) := by
  obtain ⟨vs, h1, h2, h3⟩ := h
  have hvl : vs.length = bss.length := by have := h1.1; omega
  rcases owns_forms h1 with ⟨_, e2⟩ | ⟨g, cap, e1, e2, e3, e4⟩
  · exact absurd (List.eq_nil_of_length_eq_zero e2) hn
  · have key : ∀ i, i < bss.length → ∃ p c, vs.getD i nov = .slice p (bss.getD i []).length c ∧ OwnS w p (chcells (bss.getD i [])) ∧ (∀ k, blk p (bss.getD i []).length = some k → base ≤ k ∧ (vs.getD i nov).ownBlock = some k) := fun i hi => by
      rcases owns_forms (h2 i hi) with ⟨f1, f2⟩ | ⟨gi, ci, f1, f2, f3, f4⟩
      · have hz : bss.getD i [] = [] := List.eq_nil_of_length_eq_zero f2
        exact ⟨none, 0, by rw [f1, f2], .inl (by rw [hz]; rfl), fun k hk => by rw [f2] at hk; cases hk⟩
      · refine ⟨_, ci, f1, .inr ⟨gi, rfl, f4⟩, fun k hk => ?_⟩
        have : k = gi := by
          unfold blk at hk
          split at hk
          · cases hk
          · simp at hk; exact hk.symm
        subst this
        exact ⟨f2, by rw [f1]; rfl⟩
    let ps : Nat → Option Addr := fun i => if hi : i < bss.length then Classical.choose (key i hi) else none
    let cs : Nat → Nat := fun i => if hi : i < bss.length then Classical.choose (Classical.choose_spec (key i hi)) else 0
    have kk : ∀ i (hi : i < bss.length), vs.getD i nov = .slice (ps i) (bss.getD i []).length (cs i) ∧ OwnS w (ps i) (chcells (bss.getD i [])) ∧ (∀ k, blk (ps i) (bss.getD i []).length = some k → base ≤ k ∧ (vs.getD i nov).ownBlock = some k) := fun i hi => by
      have := Classical.choose_spec (Classical.choose_spec (key i hi))
      simpa [ps, cs, hi] using this
    refine ⟨g, cap, ps, cs, e1, e3, e2, fun i hi => ?_, fun i hi => rfl, fun i hi => (kk i hi).2.1, fun i k hi hk => ?_, fun i j k hij hj hi hk => ?_⟩
    · rw [← (kk i hi).1]
      refine e4.cell i _ ?_
      simp [List.getD, List.getElem?_eq_getElem (show i < vs.length by omega)]
    · have hb := (kk i hi).2.2 k hk
      refine ⟨hb.1, fun e => ?_⟩
      rcases rows_apart (h2 i hi) h1 (by decide) with h | h
      · rw [hb.2] at h; cases h
      · rw [hb.2, e1, e] at h; exact h rfl
    · exact h3 i j k hij hj ((kk i (by omega)).2.2 k hi).2 ((kk j hj).2.2 k hk).2
theorem Bk.bts {w : World} {base g : Nat} {bss : List (List Ch)} {ps : Nat → Option Addr} {cs : Nat → Nat} (h : Bk w base g bss.length ps cs (fun i => (bss.getD i []).length) (fun i => bss.getD i [])) : Bts w (some ⟨g, 0, none⟩) bss :=
  .inr ⟨g, rfl, h.lt, fun i hi => ⟨ps i, cs i, h.cell i hi, by
    rcases h.own i hi with e | ⟨q, e, hr⟩
    · exact .inl (List.eq_nil_of_length_eq_zero (by have := congrArg List.length e; rw [chcells_length, List.length_nil] at this; omega))
    · rw [e]; exact hr.chs⟩⟩
end Go.Proofs.Ytnmaknnnmjfhkac
