import Derived.Test.YtnmaknnnmjfhkadSnP
namespace Go.Proofs.Ytnmaknnnmjfhkad
open Go.RowKit
set_option linter.unusedVariables false
set_option linter.unusedSimpArgs false
set_option maxRecDepth 4000

theorem info_chS : (Try.prog.info? 33).map (fun i => (i.zero, i.size, i.bytes)) = some (some (.agg #[.string ByteArray.empty, .string ByteArray.empty, .bool false]), 3, 40) := by kernel_rfl
theorem info_slS : (Try.prog.info? 26).map (fun i => (i.zero, i.size, i.bytes)) = some (some (.slice none 0 0), 1, 24) := by kernel_rfl
theorem info_partsS {P : Program} {e : TypeId} {z : Value} {size bytes : Nat} (h : (P.info? e).map (fun i => (i.zero, i.size, i.bytes)) = some (some z, size, bytes)) : ∃ i, P.info? e = some i ∧ i.zero = some z ∧ i.size = size ∧ i.bytes = bytes := by
  obtain ⟨i, hi, hh⟩ := Option.map_eq_some_iff.1 h
  simp only [Prod.mk.injEq] at hh
  exact ⟨i, hi, hh⟩
theorem below_grownS {W w w1 : World} {e : TypeId} {size : Nat} {v : Value} {n B : Nat} {xs : List Value} (hb : Below B W w) (own : w.ownsRow B e size v n xs) (hg : w.grownBy w1 v.ownBlock) (hB : B ≤ w.heap.size) : Below B W w1 :=
  hb.trans ⟨hg.os, hg.tape, hg.output, hg.size, fun k hk => hg.block k (by omega) (fun he => by have := (own.lt k he.symm).1; omega)⟩
theorem owns_mono {w : World} {b b' : Nat} {e : TypeId} {s : Nat} {v : Value} {n : Nat} {xs : List Value} (h : w.ownsRow b e s v n xs) (hb : b' ≤ b) : w.ownsRow b' e s v n xs := by
  refine ⟨h.1, ?_⟩
  rcases h.2 with h0 | ⟨g, cap, cur, h1, h2, h3⟩
  · exact .inl h0
  · exact .inr ⟨g, cap, cur, h1, Nat.le_trans hb h2, h3⟩
theorem Bat.mono {w : World} {b b' : Nat} {v : Value} {bss : List (List Ch)} (h : Bat w b v bss) (hb : b' ≤ b) : Bat w b' v bss := by
  obtain ⟨vs, h1, h2, h3⟩ := h
  exact ⟨vs, owns_mono h1 hb, fun i hi => owns_mono (h2 i hi) hb, h3⟩
/-- The rest of batches, beside the last one. -/
structure Rest (w : World) (base : Nat) (bss : List (List Ch)) (vs : List Value) (x : Value) : Prop where
  len : vs.length = bss.length
  own : ∀ i, i < bss.length → w.ownsRow base 33 3 (vs.getD i nov) (bss.getD i []).length (chcells (bss.getD i []))
  apart : ∀ i j k, i < j → j < bss.length → (vs.getD i nov).ownBlock = some k → (vs.getD j nov).ownBlock ≠ some k
  last : ∀ i k, i < bss.length → (vs.getD i nov).ownBlock = some k → x.ownBlock ≠ some k
theorem Bat.last {w : World} {base : Nat} {v : Value} {bss : List (List Ch)} {cs : List Ch} (h : Bat w base v (bss ++ [cs])) : ∃ g cap vs p c, v = .slice (some ⟨g, 0, none⟩) (bss.length + 1) cap ∧ w.ownsRow base 26 1 v (bss.length + 1) (vs ++ [.slice p cs.length c]) ∧ w.ownsRow base 33 3 (.slice p cs.length c) cs.length (chcells cs) ∧ Rest w base bss vs (.slice p cs.length c) := by
  obtain ⟨vs, h1, h2, h3⟩ := h
  have hvl : vs.length = bss.length + 1 := by have := h1.1; simp at this; omega
  obtain ⟨us, x, rfl⟩ : ∃ us x, vs = us ++ [x] := ⟨vs.dropLast, vs.getLast (by intro e; subst e; simp at hvl), (List.dropLast_concat_getLast _).symm⟩
  have hul : us.length = bss.length := by simp at hvl; exact hvl
  have hx := h2 bss.length (by simp)
  have e1 : (us ++ [x]).getD bss.length nov = x := by rw [← hul]; simp [List.getD]
  have e2 : (bss ++ [cs]).getD bss.length [] = cs := by simp [List.getD]
  rw [e1, e2] at hx
  have f1 : ∀ i, i < bss.length → (us ++ [x]).getD i nov = us.getD i nov := fun i hi => by simp [List.getD, List.getElem?_append_left (show i < us.length by omega)]
  have f2 : ∀ i, i < bss.length → (bss ++ [cs]).getD i [] = bss.getD i [] := fun i hi => by simp [List.getD, List.getElem?_append_left hi]
  obtain ⟨p, c, rfl, _⟩ := owns_chs' hx
  simp only [List.length_append, List.length_cons, List.length_nil] at h1
  obtain ⟨g, cap, hv⟩ : ∃ g cap, v = .slice (some ⟨g, 0, none⟩) (bss.length + 1) cap := by
    rcases owns_forms h1 with ⟨_, h0⟩ | ⟨g, cap, h0, _⟩
    · omega
    · exact ⟨g, cap, h0⟩
  refine ⟨g, cap, us, p, c, hv, h1, hx, hul, fun i hi => ?_, fun i j k hij hj he => ?_, fun i k hi he => ?_⟩
  · have := h2 i (by simp; omega)
    rwa [f1 i hi, f2 i hi] at this
  · have := h3 i j k hij (by simp; omega)
    rw [f1 i (by omega), f1 j hj] at this
    exact this he
  · have := h3 i bss.length k hi (by simp)
    rw [f1 i hi, e1] at this
    exact this he
/-- The last batch is put anew. -/
theorem Rest.relast {w w1 : World} {base g cap : Nat} {bss : List (List Ch)} {cs : List Ch} {vs : List Value} {x x' : Value} {n0 : Nat} {cs0 : List Ch} (hr : Rest w base bss vs x) (hb : base ≤ w.heap.size)
    (ho : w.ownsRow base 26 1 (.slice (some ⟨g, 0, none⟩) (bss.length + 1) cap) (bss.length + 1) (vs ++ [x])) (hx : w.ownsRow base 33 3 x n0 (chcells cs0))
    (hg : w.grownBy w1 x.ownBlock) (hx' : w1.ownsRow base 33 3 x' cs.length (chcells cs)) (hn : x.ownBlock = x'.ownBlock ∨ x'.ownBlock = some w.heap.size) :
    Bat (w1.setCell ⟨g, bss.length, none⟩ x') base (.slice (some ⟨g, 0, none⟩) (bss.length + 1) cap) (bss ++ [cs]) := by
  have ne : (33 : TypeId) ≠ 26 := by decide
  have hul := hr.len
  have ho1 : w1.ownsRow base 26 1 (.slice (some ⟨g, 0, none⟩) (bss.length + 1) cap) (bss.length + 1) (vs ++ [x]) := ho.kept hg (by
    rcases rows_apart ho hx (Ne.symm ne) with h | h
    · exact .inl h
    · exact .inr h)
  have hgs : w1.grownBy (w1.setCell ⟨g, bss.length, none⟩ x') (some g) := ⟨rfl, rfl, rfl, by simp [World.setCell], fun k _ hk => Below.heap_setCell _ _ _ k (fun e => hk (by rw [e]))⟩
  have ap : ∀ {u : Value} {n : Nat} {xs : List Value}, w1.ownsRow base 33 3 u n xs → (w1.setCell ⟨g, bss.length, none⟩ x').ownsRow base 33 3 u n xs := fun h => h.kept hgs (rows_apart h ho1 ne)
  have old : ∀ i, i < bss.length → w1.ownsRow base 33 3 (vs.getD i nov) (bss.getD i []).length (chcells (bss.getD i [])) := fun i hi => (hr.own i hi).kept hg (by
    cases hk : (vs.getD i nov).ownBlock with
    | none => exact .inl rfl
    | some k => exact .inr fun e => hr.last i k hi hk e.symm)
  have f1 : ∀ i, i < bss.length → (vs ++ [x']).getD i nov = vs.getD i nov := fun i hi => by simp [List.getD, List.getElem?_append_left (show i < vs.length by omega)]
  have f2 : ∀ i, i < bss.length → (bss ++ [cs]).getD i [] = bss.getD i [] := fun i hi => by simp [List.getD, List.getElem?_append_left hi]
  have e1 : (vs ++ [x']).getD bss.length nov = x' := by rw [← hul]; simp [List.getD]
  have e2 : (bss ++ [cs]).getD bss.length [] = cs := by simp [List.getD]
  refine ⟨vs ++ [x'], ?_, fun i hi => ?_, fun i j k hij hj he => ?_⟩
  · refine ⟨by simp [hul], .inr ?_⟩
    rcases ho1.2 with ⟨h0, _⟩ | ⟨g', cap', cur, h1, h2, h3, h4, h5, h6, h7⟩
    · cases h0
    · cases h1
      refine ⟨g, cap, cur.set! bss.length x', by simp, h2, ?_, by simpa using h4, h5, by simpa using h6, ?_⟩
      · have hlt := (Array.getElem?_eq_some_iff.1 h3).1
        have hk := (Array.getElem?_eq_some_iff.1 h3).2
        show (w1.heap.modify g _)[g]? = _
        rw [Array.getElem?_eq_getElem (by rw [Array.size_modify]; exact hlt), Array.getElem_modify_self, hk]
        rfl
      · have hz : cur.toList.length = cur.size := by simp
        have hl : bss.length < cur.toList.length := by omega
        simp only [Nat.mul_one, List.length_append, List.length_cons, List.length_nil] at h7 ⊢
        have : (cur.set! bss.length x').toList = cur.toList.set bss.length x' := by simp
        rw [this, Nat.zero_add, List.take_set, h7, List.set_append_right _ _ (by omega), hul]
        simp
  · by_cases hlt : i < bss.length
    · rw [f1 i hlt, f2 i hlt]; exact ap (old i hlt)
    · have : i = bss.length := by simp at hi; omega
      subst this
      rw [e1, e2]; exact ap hx'
  · simp only [List.length_append, List.length_cons, List.length_nil] at hj
    rw [f1 i (by omega)] at he
    by_cases hlt : j < bss.length
    · rw [f1 j hlt]; exact hr.apart i j k hij hlt he
    · have : j = bss.length := by omega
      subst this
      rw [e1]
      rcases hn with h | h
      · rw [← h]; exact hr.last i k hij he
      · rw [h]
        intro e
        have := (hr.own i hij).lt k he
        simp at e
        omega
end Go.Proofs.Ytnmaknnnmjfhkad
