import Derived.Test.YtnmaknnnmjfhkadVS
import Derived.Test.YtnmaknnnmjfhkadRbP
import Derived.Test.YtnmaknnnmjfhkadDsk
namespace Go.Proofs.Ytnmaknnnmjfhkad
open Go.RowKit
set_option linter.unusedVariables false
set_option linter.unusedSimpArgs false

abbrev Pr := ByteArray × ByteArray
abbrev nov : Value := .slice none 0 0
/-- A pair as a change. -/
def chOf (p : Pr) : Ch := (p.1, p.2, false)
/-- The batch number k of so many pairs. -/
def chunkAt (rs : List Pr) (k : Nat) : List Ch := ((rs.drop (k * 20)).take 20).map chOf
/-- The batches of the first i pairs. -/
def snapU (rs : List Pr) (i : Nat) : List (List Ch) := (List.range ((i + 19) / 20)).map (chunkAt (rs.take i))
/-- What Snapshot gives. -/
def snapOf (rs : List Pr) : List (List Ch) := if stateOk rs = true then snapU rs rs.length else []

theorem snapU_length (rs : List Pr) (i : Nat) : (snapU rs i).length = (i + 19) / 20 := by simp [snapU]
theorem snapU_zero (rs : List Pr) : snapU rs 0 = [] := rfl
theorem chunk_old (rs : List Pr) (i k : Nat) (hi : i < rs.length) (hk : k * 20 + 20 ≤ i) : chunkAt (rs.take (i + 1)) k = chunkAt (rs.take i) k := by
  unfold chunkAt
  congr 1
  rw [List.drop_take, List.drop_take, List.take_take, List.take_take]
  congr 1
  omega
theorem chunk_new (rs : List Pr) (i k : Nat) (hi : i < rs.length) (h1 : k * 20 ≤ i) (h2 : i < k * 20 + 20) (d : Pr) : chunkAt (rs.take (i + 1)) k = chunkAt (rs.take i) k ++ [chOf (rs.getD i d)] := by
  unfold chunkAt
  rw [List.drop_take, List.drop_take, List.take_take, List.take_take, Nat.min_eq_right (by omega), Nat.min_eq_right (by omega)]
  rw [show i + 1 - k * 20 = (i - k * 20) + 1 by omega, List.take_add_one, List.map_append]
  congr 1
  rw [List.getElem?_drop, show k * 20 + (i - k * 20) = i by omega]
  simp [List.getD, hi]
/-- A new batch is begun. -/
theorem snapU_begin (rs : List Pr) (i : Nat) (hi : i < rs.length) (h : i % 20 = 0) (d : Pr) : snapU rs (i + 1) = snapU rs i ++ [[chOf (rs.getD i d)]] := by
  unfold snapU
  rw [show (i + 1 + 19) / 20 = (i + 19) / 20 + 1 by omega, List.range_succ, List.map_append]
  have e0 : chunkAt (rs.take i) (i / 20) = [] := by
    unfold chunkAt
    rw [List.drop_eq_nil_of_le (by rw [List.length_take]; omega)]
    rfl
  congr 1
  · exact List.map_congr_left fun k hk => chunk_old rs i k hi (by simp at hk; omega)
  · have e1 : (i + 19) / 20 = i / 20 := by omega
    rw [e1, List.map_singleton, chunk_new rs i (i / 20) hi (by omega) (by omega) d, e0]
    rfl
/-- The last batch is gone on with. -/
theorem snapU_on (rs : List Pr) (i : Nat) (hi : i < rs.length) (h : i % 20 ≠ 0) (d : Pr) : ∃ bss cs, snapU rs i = bss ++ [cs] ∧ snapU rs (i + 1) = bss ++ [cs ++ [chOf (rs.getD i d)]] ∧ cs.length ≤ 20 := by
  refine ⟨(List.range (i / 20)).map (chunkAt (rs.take i)), chunkAt (rs.take i) (i / 20), ?_, ?_, ?_⟩
  · unfold snapU
    rw [show (i + 19) / 20 = i / 20 + 1 by omega, List.range_succ, List.map_append]
    rfl
  · unfold snapU
    rw [show (i + 1 + 19) / 20 = i / 20 + 1 by omega, List.range_succ, List.map_append, List.map_singleton, chunk_new rs i (i / 20) hi (by omega) (by omega) d]
    congr 1
    exact List.map_congr_left fun k hk => chunk_old rs i k hi (by simp at hk; omega)
  · unfold chunkAt; simp; omega
theorem chunk_len (rs : List Pr) (k : Nat) : (chunkAt rs k).length = min 20 (rs.length - k * 20) := by unfold chunkAt; simp
theorem snapU_all (rs : List Pr) : snapU rs rs.length = (List.range ((rs.length + 19) / 20)).map (chunkAt rs) := by unfold snapU; rw [List.take_length]
theorem snap_mem {rs : List Pr} {b : List Ch} (h : b ∈ snapU rs rs.length) : b.length ≤ 20 ∧ ∀ x ∈ b, (x.1, x.2.1) ∈ rs := by
  rw [snapU_all] at h
  obtain ⟨k, hk, rfl⟩ := List.mem_map.1 h
  refine ⟨by rw [chunk_len]; omega, fun x hx => ?_⟩
  unfold chunkAt at hx
  obtain ⟨p, hp, rfl⟩ := List.mem_map.1 hx
  exact List.mem_of_mem_drop (List.mem_of_mem_take hp)

/-- Batches that a call has made: each of them its own, and none in another's block. -/
def Bat (w : World) (base : Nat) (v : Value) (bss : List (List Ch)) : Prop :=
  ∃ vs : List Value, w.ownsRow base 26 1 v bss.length vs ∧ (∀ i, i < bss.length → w.ownsRow base 33 3 (vs.getD i nov) (bss.getD i []).length (chcells (bss.getD i []))) ∧
    ∀ i j k, i < j → j < bss.length → (vs.getD i nov).ownBlock = some k → (vs.getD j nov).ownBlock ≠ some k
theorem Bat.nil (w : World) (base : Nat) : Bat w base nov [] := ⟨[], World.ownsRow_nil _ _ _ _, fun i h => absurd h (by simp), fun i j k _ h => absurd h (by simp)⟩
theorem Bat.below {w w' : World} {base : Nat} {v : Value} {bss : List (List Ch)} (h : Bat w base v bss) (hb : Below w.heap.size w w') : Bat w' base v bss := by
  obtain ⟨vs, h1, h2, h3⟩ := h
  exact ⟨vs, owns_below h1 hb, fun i hi => owns_below (h2 i hi) hb, h3⟩
theorem rows_apart {w : World} {b1 b2 : Nat} {e1 e2 : TypeId} {s1 s2 : Nat} {v1 v2 : Value} {n1 n2 : Nat} {x1 x2 : List Value} (h1 : w.ownsRow b1 e1 s1 v1 n1 x1) (h2 : w.ownsRow b2 e2 s2 v2 n2 x2) (he : e1 ≠ e2) : v1.ownBlock = none ∨ v1.ownBlock ≠ v2.ownBlock := by
  rcases h1.2 with ⟨rfl, _⟩ | ⟨g, cap, cur, rfl, _, hg, _⟩
  · exact .inl rfl
  · right
    rcases h2.2 with ⟨rfl, _⟩ | ⟨g', cap', cur', rfl, _, hg', _⟩
    · simp [Value.ownBlock]
    · simp only [Value.ownBlock, ne_eq, Option.some.injEq]
      intro e
      subst e
      rw [hg] at hg'
      cases hg'
      exact he rfl
theorem Bat.kept {w w' : World} {base : Nat} {v : Value} {bss : List (List Ch)} {row : Option Nat} (h : Bat w base v bss) (hg : w.grownBy w' row) (hr : ∀ k, row = some k → base > k ∨ w.heap.size ≤ k) : Bat w' base v bss := by
  obtain ⟨vs, h1, h2, h3⟩ := h
  have key : ∀ {e : TypeId} {s : Nat} {u : Value} {n : Nat} {xs : List Value}, w.ownsRow base e s u n xs → w'.ownsRow base e s u n xs := fun hh => by
    refine hh.kept hg ?_
    cases hu : (Value.ownBlock _) with
    | none => exact .inl rfl
    | some k =>
      refine .inr fun e => ?_
      have := hh.lt k hu
      rcases hr k e.symm with h | h <;> omega
  exact ⟨vs, key h1, fun i hi => key (h2 i hi), h3⟩
/-- One batch more. -/
theorem Bat.push {w w1 : World} {base : Nat} {v v' x : Value} {bss : List (List Ch)} {cs : List Ch} {vs : List Value} (h1 : w.ownsRow base 26 1 v bss.length vs) (h2 : ∀ i, i < bss.length → w.ownsRow base 33 3 (vs.getD i nov) (bss.getD i []).length (chcells (bss.getD i [])))
    (h3 : ∀ i j k, i < j → j < bss.length → (vs.getD i nov).ownBlock = some k → (vs.getD j nov).ownBlock ≠ some k) (hx : w.ownsRow base 33 3 x cs.length (chcells cs)) (hxn : ∀ i k, i < bss.length → (vs.getD i nov).ownBlock = some k → x.ownBlock ≠ some k)
    (ho : w1.ownsRow base 26 1 v' (bss.length + 1) (vs ++ [x])) (hg : w.grownBy w1 v.ownBlock) : Bat w1 base v' (bss ++ [cs]) := by
  have hvl : vs.length = bss.length := by have := h1.1; omega
  have ne : (33 : TypeId) ≠ 26 := by decide
  refine ⟨vs ++ [x], by simpa using ho, fun i hi => ?_, fun i j k hij hj he => ?_⟩
  · by_cases hlt : i < bss.length
    · have e1 : (vs ++ [x]).getD i nov = vs.getD i nov := by simp [List.getD, List.getElem?_append_left (show i < vs.length by omega)]
      have e2 : (bss ++ [cs]).getD i [] = bss.getD i [] := by simp [List.getD, List.getElem?_append_left hlt]
      rw [e1, e2]
      exact (h2 i hlt).kept hg (rows_apart (h2 i hlt) h1 ne)
    · have hi' : i = bss.length := by simp at hi; omega
      subst hi'
      have e1 : (vs ++ [x]).getD bss.length nov = x := by rw [← hvl]; simp [List.getD]
      have e2 : (bss ++ [cs]).getD bss.length [] = cs := by simp [List.getD]
      rw [e1, e2]
      exact hx.kept hg (rows_apart hx h1 ne)
  · simp only [List.length_append, List.length_cons, List.length_nil] at hj
    have e1 : (vs ++ [x]).getD i nov = vs.getD i nov := by simp [List.getD, List.getElem?_append_left (show i < vs.length by omega)]
    rw [e1] at he
    by_cases hlt : j < bss.length
    · have e2 : (vs ++ [x]).getD j nov = vs.getD j nov := by simp [List.getD, List.getElem?_append_left (show j < vs.length by omega)]
      rw [e2]
      exact h3 i j k hij hlt he
    · have hj' : j = bss.length := by omega
      subst hj'
      have e2 : (vs ++ [x]).getD bss.length nov = x := by rw [← hvl]; simp [List.getD]
      rw [e2]
      exact hxn i k hij he
/-- What is read of batches. -/
def Bts (w : World) (a : Option Addr) (bss : List (List Ch)) : Prop :=
  bss = [] ∨ ∃ g, a = some ⟨g, 0, none⟩ ∧ g < w.heap.size ∧ ∀ i, i < bss.length → ∃ p c, w.cell? ⟨g, i, none⟩ = some (.slice p (bss.getD i []).length c) ∧ Chs w p (bss.getD i [])
theorem Bts.below {w w' : World} {a : Option Addr} {bss : List (List Ch)} (h : Bts w a bss) (hb : Below w.heap.size w w') : Bts w' a bss := by
  rcases h with h | ⟨g, h1, h2, h3⟩
  · exact .inl h
  · refine .inr ⟨g, h1, Nat.lt_of_lt_of_le h2 hb.size, fun i hi => ?_⟩
    obtain ⟨p, c, h4, h5⟩ := h3 i hi
    exact ⟨p, c, (hb.cell (p := ⟨g, i, none⟩) h2).trans h4, h5.below hb⟩
theorem owns_chs' {w : World} {B : Nat} {e : TypeId} {y : Value} {o : List Ch} (h : w.ownsRow B e 3 y o.length (chcells o)) : ∃ a c, y = .slice a o.length c ∧ Chs w a o := by
  rcases owns_forms h with ⟨h1, h2⟩ | ⟨g, cap, h1, h2, _, h3⟩
  · have : o = [] := List.eq_nil_of_length_eq_zero h2
    subst this
    exact ⟨none, 0, h1, .inl rfl⟩
  · exact ⟨_, cap, h1, h3.chs⟩
theorem Bat.bts {w : World} {base : Nat} {v : Value} {bss : List (List Ch)} (h : Bat w base v bss) : ∃ a c, v = .slice a bss.length c ∧ Bts w a bss := by
  obtain ⟨vs, h1, h2, h3⟩ := h
  rcases owns_forms h1 with ⟨e1, e2⟩ | ⟨g, cap, e1, e2, e3, e4⟩
  · have : bss = [] := List.eq_nil_of_length_eq_zero e2
    subst this
    exact ⟨none, 0, e1, .inl rfl⟩
  · refine ⟨_, cap, e1, .inr ⟨g, rfl, e3, fun i hi => ?_⟩⟩
    obtain ⟨p, c, f1, f2⟩ := owns_chs' (h2 i hi)
    have hvl : vs.length = bss.length := by have := h1.1; omega
    refine ⟨p, c, e4.cell i _ ?_, f2⟩
    rw [← f1]
    simp [List.getD, List.getElem?_eq_getElem (show i < vs.length by omega)]
theorem Bts.at {w : World} {a : Option Addr} {bss : List (List Ch)} (h : Bts w a bss) {k : Nat} (hk : k < bss.length) : ∃ g p c, a = some ⟨g, 0, none⟩ ∧ g < w.heap.size ∧ w.cell? ⟨g, k, none⟩ = some (.slice p (bss.getD k []).length c) ∧ Chs w p (bss.getD k []) := by
  rcases h with h | ⟨g, h1, h2, h3⟩
  · subst h; simp at hk
  · obtain ⟨p, c, h4, h5⟩ := h3 k hk
    exact ⟨g, p, c, h1, h2, h4, h5⟩
end Go.Proofs.Ytnmaknnnmjfhkad
