import Derived.Test.YtnmaknnnmjfhkagGreatDoorPrVS
import Derived.Test.YtnmaknnnmjfhkagGreatDoorPrG43
import Derived.Test.YtnmaknnnmjfhkagGreatDoorPrG51
import Derived.Test.YtnmaknnnmjfhkagGreatDoorPrG44
set_option maxHeartbeats 16000000
set_option maxRecDepth 8000
namespace Go.Proofs.YtnmaknnnmjfhkagGreatDoor
open Go.RowKit
set_option linter.unusedVariables false
set_option linter.unusedSimpArgs false
abbrev Pr := ByteArray × ByteArray
abbrev nov : Value := .slice none 0 0
def chOf (p : Pr) : Ch := (p.1, p.2, false)
def chunkAt (rs : List Pr) (k : Nat) : List Ch := ((rs.drop (k * 20)).take 20).map chOf
def snapU (rs : List Pr) (i : Nat) : List (List Ch) := (List.range ((i + 19) / 20)).map (chunkAt (rs.take i))
def snapOf (rs : List Pr) : List (List Ch) := if stateOk rs = true then snapU rs rs.length else []
theorem snapU_length (rs : List Pr) (i : Nat) : (snapU rs i).length = (i + 19) / 20 := by simp [snapU]
theorem chunk_old (rs : List Pr) (i k : Nat) (hi : i < rs.length) (hk : k * 20 + 20 ≤ i) : chunkAt (rs.take (i + 1)) k = chunkAt (rs.take i) k := by
  unfold chunkAt
  congr 1
  rw [List.drop_take, List.drop_take, List.take_take, List.take_take]
  congr 1
  omega
theorem chunk_new (rs : List Pr) (i k : Nat) (hi : i < rs.length) (h1 : k * 20 ≤ i) (h2 : i < k * 20 + 20) (d : Pr) : chunkAt (rs.take (i + 1)) k = chunkAt (rs.take i) k ++ [chOf (rs.getD i d)] := by
  unfold chunkAt
  rw [List.drop_take, List.drop_take, List.take_take, List.take_take, Nat.min_eq_right (by omega), Nat.min_eq_right (by omega)]
  rw [show i + 1 - k * 20 = (i - k * 20) + 1 by omega, List.take_add_one, List.map_append]
  congr 1
  rw [List.getElem?_drop, show k * 20 + (i - k * 20) = i by omega]
  simp [List.getD, hi]
theorem snapU_begin (rs : List Pr) (i : Nat) (hi : i < rs.length) (h : i % 20 = 0) (d : Pr) : snapU rs (i + 1) = snapU rs i ++ [[chOf (rs.getD i d)]] := by
  unfold snapU
  rw [show (i + 1 + 19) / 20 = (i + 19) / 20 + 1 by omega, List.range_succ, List.map_append]
  have e0 : chunkAt (rs.take i) (i / 20) = [] := by
    unfold chunkAt
    rw [List.drop_eq_nil_of_le (by rw [List.length_take]; omega)]
    rfl
  congr 1
  · exact List.map_congr_left fun k hk => chunk_old rs i k hi (by simp at hk; omega)
  · have e1 : (i + 19) / 20 = i / 20 := by omega
    rw [e1, List.map_singleton, chunk_new rs i (i / 20) hi (by omega) (by omega) d, e0]
    rfl
theorem snapU_on (rs : List Pr) (i : Nat) (hi : i < rs.length) (h : i % 20 ≠ 0) (d : Pr) : ∃ bss cs, snapU rs i = bss ++ [cs] ∧ snapU rs (i + 1) = bss ++ [cs ++ [chOf (rs.getD i d)]] ∧ cs.length ≤ 20 := by
  refine ⟨(List.range (i / 20)).map (chunkAt (rs.take i)), chunkAt (rs.take i) (i / 20), ?_, ?_, ?_⟩
  · unfold snapU
    rw [show (i + 19) / 20 = i / 20 + 1 by omega, List.range_succ, List.map_append]
    rfl
  · unfold snapU
    rw [show (i + 1 + 19) / 20 = i / 20 + 1 by omega, List.range_succ, List.map_append, List.map_singleton, chunk_new rs i (i / 20) hi (by omega) (by omega) d]
    congr 1
    exact List.map_congr_left fun k hk => chunk_old rs i k hi (by simp at hk; omega)
  · unfold chunkAt; simp; omega
theorem chunk_len (rs : List Pr) (k : Nat) : (chunkAt rs k).length = min 20 (rs.length - k * 20) := by unfold chunkAt; simp
theorem snapU_all (rs : List Pr) : snapU rs rs.length = (List.range ((rs.length + 19) / 20)).map (chunkAt rs) := by unfold snapU; rw [List.take_length]
theorem snap_mem {rs : List Pr} {b : List Ch} (h : b ∈ snapU rs rs.length) : b.length ≤ 20 ∧ ∀ x ∈ b, (x.1, x.2.1) ∈ rs := by
  rw [snapU_all] at h
  obtain ⟨k, hk, rfl⟩ := List.mem_map.1 h
  refine ⟨by rw [chunk_len]; omega, fun x hx => ?_⟩
  unfold chunkAt at hx
  obtain ⟨p, hp, rfl⟩ := List.mem_map.1 hx
  exact List.mem_of_mem_drop (List.mem_of_mem_take hp)
def Bat (w : World) (base : Nat) (v : Value) (bss : List (List Ch)) : Prop :=
  ∃ vs : List Value, w.ownsRow base 54 1 v bss.length vs ∧ (∀ i, i < bss.length → w.ownsRow base 69 3 (vs.getD i nov) (bss.getD i []).length (chcells (bss.getD i []))) ∧
    ∀ i j k, i < j → j < bss.length → (vs.getD i nov).ownBlock = some k → (vs.getD j nov).ownBlock ≠ some k
theorem Bat.nil (w : World) (base : Nat) : Bat w base nov [] := ⟨[], World.ownsRow_nil _ _ _ _, fun i h => absurd h (by simp), fun i j k _ h => absurd h (by simp)⟩
theorem Bat.below {w w' : World} {base : Nat} {v : Value} {bss : List (List Ch)} (h : Bat w base v bss) (hb : Below w.heap.size w w') : Bat w' base v bss := by
  obtain ⟨vs, h1, h2, h3⟩ := h
  exact ⟨vs, owns_below h1 hb, fun i hi => owns_below (h2 i hi) hb, h3⟩
theorem rows_apart {w : World} {b1 b2 : Nat} {e1 e2 : TypeId} {s1 s2 : Nat} {v1 v2 : Value} {n1 n2 : Nat} {x1 x2 : List Value} (h1 : w.ownsRow b1 e1 s1 v1 n1 x1) (h2 : w.ownsRow b2 e2 s2 v2 n2 x2) (he : e1 ≠ e2) : v1.ownBlock = none ∨ v1.ownBlock ≠ v2.ownBlock := by
  rcases h1.2 with ⟨rfl, _⟩ | ⟨g, cap, cur, rfl, _, hg, _⟩
  · exact .inl rfl
  · right
    rcases h2.2 with ⟨rfl, _⟩ | ⟨g', cap', cur', rfl, _, hg', _⟩
    · simp [Value.ownBlock]
    · simp only [Value.ownBlock, ne_eq, Option.some.injEq]
      intro e
      subst e
      rw [hg] at hg'
      cases hg'
      exact he rfl
theorem Bat.kept {w w' : World} {base : Nat} {v : Value} {bss : List (List Ch)} {row : Option Nat} (h : Bat w base v bss) (hg : w.grownBy w' row) (hr : ∀ k, row = some k → base > k ∨ w.heap.size ≤ k) : Bat w' base v bss := by
  obtain ⟨vs, h1, h2, h3⟩ := h
  have key : ∀ {e : TypeId} {s : Nat} {u : Value} {n : Nat} {xs : List Value}, w.ownsRow base e s u n xs → w'.ownsRow base e s u n xs := fun hh => by
    refine hh.kept hg ?_
    cases hu : (Value.ownBlock _) with
    | none => exact .inl rfl
    | some k =>
      refine .inr fun e => ?_
      have := hh.lt k hu
      rcases hr k e.symm with h | h <;> omega
  exact ⟨vs, key h1, fun i hi => key (h2 i hi), h3⟩
theorem Bat.push {w w1 : World} {base : Nat} {v v' x : Value} {bss : List (List Ch)} {cs : List Ch} {vs : List Value} (h1 : w.ownsRow base 54 1 v bss.length vs) (h2 : ∀ i, i < bss.length → w.ownsRow base 69 3 (vs.getD i nov) (bss.getD i []).length (chcells (bss.getD i [])))
    (h3 : ∀ i j k, i < j → j < bss.length → (vs.getD i nov).ownBlock = some k → (vs.getD j nov).ownBlock ≠ some k) (hx : w.ownsRow base 69 3 x cs.length (chcells cs)) (hxn : ∀ i k, i < bss.length → (vs.getD i nov).ownBlock = some k → x.ownBlock ≠ some k)
    (ho : w1.ownsRow base 54 1 v' (bss.length + 1) (vs ++ [x])) (hg : w.grownBy w1 v.ownBlock) : Bat w1 base v' (bss ++ [cs]) := by
  have hvl : vs.length = bss.length := by have := h1.1; omega
  have ne : (69 : TypeId) ≠ 54 := by decide
  refine ⟨vs ++ [x], by simpa using ho, fun i hi => ?_, fun i j k hij hj he => ?_⟩
  · by_cases hlt : i < bss.length
    · have e1 : (vs ++ [x]).getD i nov = vs.getD i nov := by simp [List.getD, List.getElem?_append_left (show i < vs.length by omega)]
      have e2 : (bss ++ [cs]).getD i [] = bss.getD i [] := by simp [List.getD, List.getElem?_append_left hlt]
      rw [e1, e2]
      exact (h2 i hlt).kept hg (rows_apart (h2 i hlt) h1 ne)
    · have hi' : i = bss.length := by simp at hi; omega
      subst hi'
      have e1 : (vs ++ [x]).getD bss.length nov = x := by rw [← hvl]; simp [List.getD]
      have e2 : (bss ++ [cs]).getD bss.length [] = cs := by simp [List.getD]
      rw [e1, e2]
      exact hx.kept hg (rows_apart hx h1 ne)
  · simp only [List.length_append, List.length_cons, List.length_nil] at hj
    have e1 : (vs ++ [x]).getD i nov = vs.getD i nov := by simp [List.getD, List.getElem?_append_left (show i < vs.length by omega)]
    rw [e1] at he
    by_cases hlt : j < bss.length
    · have e2 : (vs ++ [x]).getD j nov = vs.getD j nov := by simp [List.getD, List.getElem?_append_left (show j < vs.length by omega)]
      rw [e2]
      exact h3 i j k hij hlt he
    · have hj' : j = bss.length := by omega
      subst hj'
      have e2 : (vs ++ [x]).getD bss.length nov = x := by rw [← hvl]; simp [List.getD]
      rw [e2]
      exact hxn i k hij he
def Bts (w : World) (a : Option Addr) (bss : List (List Ch)) : Prop :=
  bss = [] ∨ ∃ g, a = some ⟨g, 0, none⟩ ∧ g < w.heap.size ∧ ∀ i, i < bss.length → ∃ p c, w.cell? ⟨g, i, none⟩ = some (.slice p (bss.getD i []).length c) ∧ Chs w p (bss.getD i [])
theorem Bts.below {w w' : World} {a : Option Addr} {bss : List (List Ch)} (h : Bts w a bss) (hb : Below w.heap.size w w') : Bts w' a bss := by
  rcases h with h | ⟨g, h1, h2, h3⟩
  · exact .inl h
  · refine .inr ⟨g, h1, Nat.lt_of_lt_of_le h2 hb.size, fun i hi => ?_⟩
    obtain ⟨p, c, h4, h5⟩ := h3 i hi
    exact ⟨p, c, (hb.cell (p := ⟨g, i, none⟩) h2).trans h4, h5.below hb⟩
theorem owns_chs' {w : World} {B : Nat} {e : TypeId} {y : Value} {o : List Ch} (h : w.ownsRow B e 3 y o.length (chcells o)) : ∃ a c, y = .slice a o.length c ∧ Chs w a o := by
  rcases owns_forms h with ⟨h1, h2⟩ | ⟨g, cap, h1, h2, _, h3⟩
  · have : o = [] := List.eq_nil_of_length_eq_zero h2
    subst this
    exact ⟨none, 0, h1, .inl rfl⟩
  · exact ⟨_, cap, h1, h3.chs⟩
theorem Bat.bts {w : World} {base : Nat} {v : Value} {bss : List (List Ch)} (h : Bat w base v bss) : ∃ a c, v = .slice a bss.length c ∧ Bts w a bss := by
  obtain ⟨vs, h1, h2, h3⟩ := h
  rcases owns_forms h1 with ⟨e1, e2⟩ | ⟨g, cap, e1, e2, e3, e4⟩
  · have : bss = [] := List.eq_nil_of_length_eq_zero e2
    subst this
    exact ⟨none, 0, e1, .inl rfl⟩
  · refine ⟨_, cap, e1, .inr ⟨g, rfl, e3, fun i hi => ?_⟩⟩
    obtain ⟨p, c, f1, f2⟩ := owns_chs' (h2 i hi)
    have hvl : vs.length = bss.length := by have := h1.1; omega
    refine ⟨p, c, e4.cell i _ ?_, f2⟩
    rw [← f1]
    simp [List.getD, List.getElem?_eq_getElem (show i < vs.length by omega)]
theorem Bts.at {w : World} {a : Option Addr} {bss : List (List Ch)} (h : Bts w a bss) {k : Nat} (hk : k < bss.length) : ∃ g p c, a = some ⟨g, 0, none⟩ ∧ g < w.heap.size ∧ w.cell? ⟨g, k, none⟩ = some (.slice p (bss.getD k []).length c) ∧ Chs w p (bss.getD k []) := by
  rcases h with h | ⟨g, h1, h2, h3⟩
  · subst h; simp at hk
  · obtain ⟨p, c, h4, h5⟩ := h3 k hk
    exact ⟨g, p, c, h1, h2, h4, h5⟩
end Go.Proofs.YtnmaknnnmjfhkagGreatDoor

namespace Go.Proofs.YtnmaknnnmjfhkagGreatDoor
open Go.RowKit
set_option linter.unusedVariables false
set_option linter.unusedSimpArgs false
set_option maxRecDepth 4000
theorem info_chS : (Tryz.prog.info? 69).map (fun i => (i.zero, i.size, i.bytes)) = some (some (.agg #[.string ByteArray.empty, .string ByteArray.empty, .bool false]), 3, 40) := by kernel_rfl
theorem info_slS : (Tryz.prog.info? 54).map (fun i => (i.zero, i.size, i.bytes)) = some (some (.slice none 0 0), 1, 24) := by kernel_rfl
theorem info_partsS {P : Program} {e : TypeId} {z : Value} {size bytes : Nat} (h : (P.info? e).map (fun i => (i.zero, i.size, i.bytes)) = some (some z, size, bytes)) : ∃ i, P.info? e = some i ∧ i.zero = some z ∧ i.size = size ∧ i.bytes = bytes := by
  obtain ⟨i, hi, hh⟩ := Option.map_eq_some_iff.1 h
  simp only [Prod.mk.injEq] at hh
  exact ⟨i, hi, hh⟩
theorem below_grownS {W w w1 : World} {e : TypeId} {size : Nat} {v : Value} {n B : Nat} {xs : List Value} (hb : Below B W w) (own : w.ownsRow B e size v n xs) (hg : w.grownBy w1 v.ownBlock) (hB : B ≤ w.heap.size) : Below B W w1 :=
  hb.trans ⟨hg.os, hg.tape, hg.output, hg.size, fun k hk => hg.block k (by omega) (fun he => by have := (own.lt k he.symm).1; omega)⟩
theorem owns_mono {w : World} {b b' : Nat} {e : TypeId} {s : Nat} {v : Value} {n : Nat} {xs : List Value} (h : w.ownsRow b e s v n xs) (hb : b' ≤ b) : w.ownsRow b' e s v n xs := by
  refine ⟨h.1, ?_⟩
  rcases h.2 with h0 | ⟨g, cap, cur, h1, h2, h3⟩
  · exact .inl h0
  · exact .inr ⟨g, cap, cur, h1, Nat.le_trans hb h2, h3⟩
theorem Bat.mono {w : World} {b b' : Nat} {v : Value} {bss : List (List Ch)} (h : Bat w b v bss) (hb : b' ≤ b) : Bat w b' v bss := by
  obtain ⟨vs, h1, h2, h3⟩ := h
  exact ⟨vs, owns_mono h1 hb, fun i hi => owns_mono (h2 i hi) hb, h3⟩
structure Rest (w : World) (base : Nat) (bss : List (List Ch)) (vs : List Value) (x : Value) : Prop where
  len : vs.length = bss.length
  own : ∀ i, i < bss.length → w.ownsRow base 69 3 (vs.getD i nov) (bss.getD i []).length (chcells (bss.getD i []))
  apart : ∀ i j k, i < j → j < bss.length → (vs.getD i nov).ownBlock = some k → (vs.getD j nov).ownBlock ≠ some k
  last : ∀ i k, i < bss.length → (vs.getD i nov).ownBlock = some k → x.ownBlock ≠ some k
theorem Bat.last {w : World} {base : Nat} {v : Value} {bss : List (List Ch)} {cs : List Ch} (h : Bat w base v (bss ++ [cs])) : ∃ g cap vs p c, v = .slice (some ⟨g, 0, none⟩) (bss.length + 1) cap ∧ w.ownsRow base 54 1 v (bss.length + 1) (vs ++ [.slice p cs.length c]) ∧ w.ownsRow base 69 3 (.slice p cs.length c) cs.length (chcells cs) ∧ Rest w base bss vs (.slice p cs.length c) := by
  obtain ⟨vs, h1, h2, h3⟩ := h
  have hvl : vs.length = bss.length + 1 := by have := h1.1; simp at this; omega
  obtain ⟨us, x, rfl⟩ : ∃ us x, vs = us ++ [x] := ⟨vs.dropLast, vs.getLast (by intro e; subst e; simp at hvl), (List.dropLast_concat_getLast _).symm⟩
  have hul : us.length = bss.length := by simp at hvl; exact hvl
  have hx := h2 bss.length (by simp)
  have e1 : (us ++ [x]).getD bss.length nov = x := by rw [← hul]; simp [List.getD]
  have e2 : (bss ++ [cs]).getD bss.length [] = cs := by simp [List.getD]
  rw [e1, e2] at hx
  have f1 : ∀ i, i < bss.length → (us ++ [x]).getD i nov = us.getD i nov := fun i hi => by simp [List.getD, List.getElem?_append_left (show i < us.length by omega)]
  have f2 : ∀ i, i < bss.length → (bss ++ [cs]).getD i [] = bss.getD i [] := fun i hi => by simp [List.getD, List.getElem?_append_left hi]
  obtain ⟨p, c, rfl, _⟩ := owns_chs' hx
  simp only [List.length_append, List.length_cons, List.length_nil] at h1
  obtain ⟨g, cap, hv⟩ : ∃ g cap, v = .slice (some ⟨g, 0, none⟩) (bss.length + 1) cap := by
    rcases owns_forms h1 with ⟨_, h0⟩ | ⟨g, cap, h0, _⟩
    · omega
    · exact ⟨g, cap, h0⟩
  refine ⟨g, cap, us, p, c, hv, h1, hx, hul, fun i hi => ?_, fun i j k hij hj he => ?_, fun i k hi he => ?_⟩
  · have := h2 i (by simp; omega)
    rwa [f1 i hi, f2 i hi] at this
  · have := h3 i j k hij (by simp; omega)
    rw [f1 i (by omega), f1 j hj] at this
    exact this he
  · have := h3 i bss.length k hi (by simp)
    rw [f1 i hi, e1] at this
    exact this he
theorem Rest.relast {w w1 : World} {base g cap : Nat} {bss : List (List Ch)} {cs : List Ch} {vs : List Value} {x x' : Value} {n0 : Nat} {cs0 : List Ch} (hr : Rest w base bss vs x) (hb : base ≤ w.heap.size)
    (ho : w.ownsRow base 54 1 (.slice (some ⟨g, 0, none⟩) (bss.length + 1) cap) (bss.length + 1) (vs ++ [x])) (hx : w.ownsRow base 69 3 x n0 (chcells cs0))
    (hg : w.grownBy w1 x.ownBlock) (hx' : w1.ownsRow base 69 3 x' cs.length (chcells cs)) (hn : x.ownBlock = x'.ownBlock ∨ x'.ownBlock = some w.heap.size) :
    Bat (w1.setCell ⟨g, bss.length, none⟩ x') base (.slice (some ⟨g, 0, none⟩) (bss.length + 1) cap) (bss ++ [cs]) := by
  have ne : (69 : TypeId) ≠ 54 := by decide
  have hul := hr.len
  have ho1 : w1.ownsRow base 54 1 (.slice (some ⟨g, 0, none⟩) (bss.length + 1) cap) (bss.length + 1) (vs ++ [x]) := ho.kept hg (by
    rcases rows_apart ho hx (Ne.symm ne) with h | h
    · exact .inl h
    · exact .inr h)
  have hgs : w1.grownBy (w1.setCell ⟨g, bss.length, none⟩ x') (some g) := ⟨rfl, rfl, rfl, by simp [World.setCell], fun k _ hk => Below.heap_setCell _ _ _ k (fun e => hk (by rw [e]))⟩
  have ap : ∀ {u : Value} {n : Nat} {xs : List Value}, w1.ownsRow base 69 3 u n xs → (w1.setCell ⟨g, bss.length, none⟩ x').ownsRow base 69 3 u n xs := fun h => h.kept hgs (rows_apart h ho1 ne)
  have old : ∀ i, i < bss.length → w1.ownsRow base 69 3 (vs.getD i nov) (bss.getD i []).length (chcells (bss.getD i [])) := fun i hi => (hr.own i hi).kept hg (by
    cases hk : (vs.getD i nov).ownBlock with
    | none => exact .inl rfl
    | some k => exact .inr fun e => hr.last i k hi hk e.symm)
  have f1 : ∀ i, i < bss.length → (vs ++ [x']).getD i nov = vs.getD i nov := fun i hi => by simp [List.getD, List.getElem?_append_left (show i < vs.length by omega)]
  have f2 : ∀ i, i < bss.length → (bss ++ [cs]).getD i [] = bss.getD i [] := fun i hi => by simp [List.getD, List.getElem?_append_left hi]
  have e1 : (vs ++ [x']).getD bss.length nov = x' := by rw [← hul]; simp [List.getD]
  have e2 : (bss ++ [cs]).getD bss.length [] = cs := by simp [List.getD]
  refine ⟨vs ++ [x'], ?_, fun i hi => ?_, fun i j k hij hj he => ?_⟩
  · refine ⟨by simp [hul], .inr ?_⟩
    rcases ho1.2 with ⟨h0, _⟩ | ⟨g', cap', cur, h1, h2, h3, h4, h5, h6, h7⟩
    · cases h0
    · cases h1
      refine ⟨g, cap, cur.set! bss.length x', by simp, h2, ?_, by simpa using h4, h5, by simpa using h6, ?_⟩
      · have hlt := (Array.getElem?_eq_some_iff.1 h3).1
        have hk := (Array.getElem?_eq_some_iff.1 h3).2
        show (w1.heap.modify g _)[g]? = _
        rw [Array.getElem?_eq_getElem (by rw [Array.size_modify]; exact hlt), Array.getElem_modify_self, hk]
        rfl
      · have hz : cur.toList.length = cur.size := by simp
        have hl : bss.length < cur.toList.length := by omega
        simp only [Nat.mul_one, List.length_append, List.length_cons, List.length_nil] at h7 ⊢
        have : (cur.set! bss.length x').toList = cur.toList.set bss.length x' := by simp
        rw [this, Nat.zero_add, List.take_set, h7, List.set_append_right _ _ (by omega), hul]
        simp
  · by_cases hlt : i < bss.length
    · rw [f1 i hlt, f2 i hlt]; exact ap (old i hlt)
    · have : i = bss.length := by simp at hi; omega
      subst this
      rw [e1, e2]; exact ap hx'
  · simp only [List.length_append, List.length_cons, List.length_nil] at hj
    rw [f1 i (by omega)] at he
    by_cases hlt : j < bss.length
    · rw [f1 j hlt]; exact hr.apart i j k hij hlt he
    · have : j = bss.length := by omega
      subst this
      rw [e1]
      rcases hn with h | h
      · rw [← h]; exact hr.last i k hij he
      · rw [h]
        intro e
        have := (hr.own i hij).lt k he
        simp at e
        omega
end Go.Proofs.YtnmaknnnmjfhkagGreatDoor

namespace Go.Proofs.YtnmaknnnmjfhkagGreatDoor
open Go.RowKit
set_option maxRecDepth 8000
set_option linter.unusedVariables false
set_option linter.unusedSimpArgs false
structure Dd where
  (C W S L T H F R U O : Int)
  rs : List Pr
  ops : List OpT
def dnV (d : Dd) (a : Option Addr) (c : Nat) (b : Option Addr) (e : Nat) : Value := .agg #[.int .i64 d.C, .int .i64 d.W, .int .i64 d.S, .int .i64 d.L, .int .i64 d.T, .int .i64 d.H, .int .i64 d.F, .int .i64 d.R, .int .i64 d.U, .int .i64 d.O, .slice a d.rs.length c, .slice b d.ops.length e]
def Apart (a : Option Addr) (n : Nat) (b : Option Addr) (m : Nat) : Prop := blk a n = none ∨ blk b m = none ∨ blk a n ≠ blk b m
structure OwnDn (w : World) (rs : List Pr) (ops : List OpT) (a b : Option Addr) : Prop where
  s : OwnS w a (prcells rs)
  p : OwnS w b (opcells ops)
  ne : Apart a rs.length b ops.length
theorem OwnDn.below {w w' : World} {rs : List Pr} {ops : List OpT} {a b : Option Addr} (h : OwnDn w rs ops a b) (hb : Below w.heap.size w w') : OwnDn w' rs ops a b := ⟨h.s.below hb, h.p.below hb, h.ne⟩
theorem OwnS.prs {w : World} {a : Option Addr} {rs : List Pr} (h : OwnS w a (prcells rs)) : Prs w a rs := by
  rcases h with h | ⟨g, rfl, h⟩
  · exact .inl (by have := congrArg List.length h; rw [prcells_length, List.length_nil] at this; exact List.eq_nil_of_length_eq_zero (by omega))
  · exact h.prs
theorem OwnS.ops {w : World} {a : Option Addr} {rs : List OpT} (h : OwnS w a (opcells rs)) : Ops w a rs := by
  rcases h with h | ⟨g, rfl, h⟩
  · exact .inl (by have := congrArg List.length h; rw [opcells_length, List.length_nil] at this; exact List.eq_nil_of_length_eq_zero (by omega))
  · exact h.ops
theorem prcells_ne {rs : List Pr} (h : rs.length ≠ 0) : prcells rs ≠ [] := fun e => h (by have := congrArg List.length e; rw [prcells_length, List.length_nil] at this; omega)
theorem opcells_ne {rs : List OpT} (h : rs.length ≠ 0) : opcells rs ≠ [] := fun e => h (by have := congrArg List.length e; rw [opcells_length, List.length_nil] at this; omega)
theorem ne_of_prcells {rs : List Pr} (h : prcells rs ≠ []) : rs.length ≠ 0 := fun e => h (by rw [List.eq_nil_of_length_eq_zero e]; rfl)
theorem ne_of_opcells {rs : List OpT} (h : opcells rs ≠ []) : rs.length ≠ 0 := fun e => h (by rw [List.eq_nil_of_length_eq_zero e]; rfl)
def DnPost (w w' : World) (x : Ending) (d : Dd) : Prop := ∃ a c b e, x = .returned (dnV d a c b e) ∧ d.rs.length ≤ c ∧ OwnDn w' d.rs d.ops a b ∧ (∀ g, blk a d.rs.length = some g → w.heap.size ≤ g) ∧ (∀ g, blk b d.ops.length = some g → w.heap.size ≤ g) ∧ Below w.heap.size w w'
def noD (C : Int) : Dd := ⟨C, 0, 0, 0, 0, 0, 0, 0, 0, 0, [], []⟩
theorem OwnS.set' {w : World} {a : Option Addr} {cs : List Value} (h : OwnS w a cs) (p : Addr) (hp : ∀ g, a = some ⟨g, 0, none⟩ → cs ≠ [] → p.block ≠ g) (v : Value) : OwnS (w.setCell p v) a cs := by
  by_cases h0 : cs = []
  · exact .inl h0
  · obtain ⟨g, rfl, hr⟩ := h.resolve_left h0
    exact .inr ⟨g, rfl, hr.other p (hp g rfl h0) v⟩
theorem row_at {w : World} {A : Array Value} {t : TypeId} {g : Nat} (hg : w.heap.size = g) : Row (w.alloc (.cells A t)) g A.toList := by subst hg; exact row_new w A t
theorem dn_no {w w' : World} {x : Ending} {C : Int} {a b : Option Addr} {c e : Nat} (hx : x = .returned (dnV (noD C) a c b e)) (hb : Below w.heap.size w w') : DnPost w w' x (noD C) :=
  ⟨a, c, b, e, hx, Nat.zero_le _, ⟨.inl rfl, .inl rfl, .inl rfl⟩, fun g h => (by cases h), fun g h => (by cases h), hb⟩
theorem OwnS.drew' {w : World} {a : Option Addr} {cs : List Value} (h : OwnS w a cs) : OwnS w.drew a cs := h.below (Below.refl _ _).drew
end Go.Proofs.YtnmaknnnmjfhkagGreatDoor

namespace Go.Proofs.YtnmaknnnmjfhkagGreatDoor
open Go.RowKit Go.Sort
set_option maxRecDepth 4000
set_option linter.unusedVariables false
set_option linter.unusedSimpArgs false
theorem cmpB_trans (a b c : ByteArray) (h1 : cmpB a b < 0) (h2 : cmpB b c < 0) : cmpB a c < 0 := by
  unfold cmpB at *
  rw [cb_lt] at *
  exact List.lt_trans h1 h2
theorem asc_step {rs : List (ByteArray × ByteArray)} (h : stateOk rs = true) (i : Nat) (hi : i + 1 < rs.length) : cmpB (kAt rs i) (kAt rs (i + 1)) < 0 := by
  have := (stateOk_of h).2 (i + 1) hi
  unfold prOk klt at this
  simp only [Nat.add_sub_cancel, Bool.and_eq_true, Bool.or_eq_true, decide_eq_true_eq] at this
  rw [cmpB_lt]
  rcases this.2 with h | h
  · omega
  · exact h
theorem asc {rs : List (ByteArray × ByteArray)} (h : stateOk rs = true) (t : Nat) : ∀ d, t + d + 1 < rs.length → cmpB (kAt rs t) (kAt rs (t + d + 1)) < 0
  | 0, hd => asc_step h t hd
  | d + 1, hd => cmpB_trans _ _ _ (asc h t d (by omega)) (asc_step h (t + d + 1) hd)
theorem asc' {rs : List (ByteArray × ByteArray)} (h : stateOk rs = true) {t u : Nat} (htu : t < u) (hu : u < rs.length) : cmpB (kAt rs t) (kAt rs u) < 0 := by
  obtain ⟨d, rfl⟩ : ∃ d, u = t + d + 1 := ⟨u - t - 1, by omega⟩
  exact asc h t d hu
theorem find_i (a : Option Addr) (rs : List (ByteArray × ByteArray)) (c : Nat) (key : ByteArray) (w : World) (h : Prs w a rs) (hl : rs.length ≤ 1048576) (hmono : Hid (∀ t m, t ≤ m → m < rs.length → cmpB (kAt rs m) key < 0 → cmpB (kAt rs t) key < 0)) :
    Calls Tryz.prog 119 #[.agg #[.string key], .slice a rs.length c] w fun e w' =>
      ∃ p : Nat, p ≤ rs.length ∧ (∀ t, t < p → cmpB (kAt rs t) key < 0) ∧ (∀ t, p ≤ t → t < rs.length → 0 ≤ cmpB (kAt rs t) key) ∧ e = .returned (.tuple #[.int .i64 (p : Int), .bool (decide (p < rs.length ∧ cmpB (kAt rs p) key = 0))]) ∧ Below w.heap.size w w' := by
  have hb0 : ∀ o, Below w.heap.size w (w.alloc o) := fun o => (Below.refl _ _).alloc (Nat.le_refl _) _
  go_enter Tryz.func119, Tryz.ntmps119
  go_wp2_with fail
  refine (bs_i a rs c key _ (h.below (hb0 _)) hl hmono).mono ?_
  rintro e w2 ⟨p, h1, h2, h3, rfl, hb2⟩
  obtain ⟨B, HB⟩ : ∃ B, Hid (B = decide (p < rs.length ∧ cmpB (kAt rs p) key = 0)) := ⟨_, hid rfl⟩
  rw [← HB.out]
  have H2 := hid h2
  have H3 := hid h3
  clear h2 h3
  go_wp2
  go_ret2
  refine ⟨p, h1, H2.out, H3.out, by rw [← HB.out]; rfl, (hb0 _).trans (hb2.mono (by simp))⟩
end Go.Proofs.YtnmaknnnmjfhkagGreatDoor

namespace Go.Proofs.YtnmaknnnmjfhkagGreatDoor
open Go.RowKit Go.Sort
set_option maxRecDepth 4000
set_option linter.unusedVariables false
set_option linter.unusedSimpArgs false
theorem cb_anti : ∀ (x y : List UInt8), 0 < Lib.compareBytes x y → Lib.compareBytes y x < 0
  | [], [] => by simp [Lib.compareBytes]
  | [], b :: l2 => by simp [Lib.compareBytes]
  | a :: l, [] => by simp [Lib.compareBytes]
  | a :: l, b :: l2 => by
    unfold Lib.compareBytes
    intro h
    by_cases h1 : a < b
    · simp [h1] at h
    · by_cases h2 : b < a
      · simp [h2]
      · simp only [h1, h2, if_false] at h ⊢
        exact cb_anti l l2 h
theorem cmpB_anti {a b : ByteArray} (h : 0 < cmpB a b) : klt b a = true := by
  have := cb_anti _ _ h
  exact (cmpB_lt b a).1 this
theorem cmpB_self (a : ByteArray) : cmpB a a = 0 := (cmpB_zero a a).2 rfl
theorem klt_no {a b : ByteArray} (h : cmpB a b < 0) : klt b a = false := by
  cases hk : klt b a with
  | false => rfl
  | true =>
    have h2 : cmpB b a < 0 := (cmpB_lt b a).2 hk
    have h3 := cmpB_trans a b a h h2
    rw [cmpB_self] at h3
    omega
theorem klt_self (a : ByteArray) : klt a a = false := by
  cases hk : klt a a with
  | false => rfl
  | true =>
    have h2 : cmpB a a < 0 := (cmpB_lt a a).2 hk
    rw [cmpB_self] at h2
    omega
def stepC (key val : ByteArray) (st : Bool × List Pr) (p : Pr) : Bool × List Pr :=
  if p.1 = key then (if (!st.1 && klt key p.1) = true then (true, st.2 ++ [(key, val)]) else st)
  else (if (!st.1 && klt key p.1) = true then (true, st.2 ++ [(key, val)] ++ [p]) else (st.1, st.2 ++ [p]))
def chW (c : Ch) (rs : List Pr) : Bool × List Pr := rs.foldl (stepC c.1 c.2.1) (c.2.2, [])
def chF (c : Ch) (rs : List Pr) : List Pr := if (chW c rs).1 = true then (chW c rs).2 else (chW c rs).2 ++ [(c.1, c.2.1)]
theorem chW_snoc (c : Ch) (rs : List Pr) (p : Pr) : chW c (rs ++ [p]) = stepC c.1 c.2.1 (chW c rs) p := by unfold chW; rw [List.foldl_append]; rfl
def ascP (rs : List Pr) : Prop := rs.Pairwise fun x y => cmpB x.1 y.1 < 0
theorem stepA (key val : ByteArray) : ∀ (l : List Pr) (g : Bool) (out : List Pr), (∀ x ∈ l, cmpB x.1 key < 0) → l.foldl (stepC key val) (g, out) = (g, out ++ l)
  | [], g, out, _ => by simp
  | x :: l, g, out, h => by
    have hx := h x List.mem_cons_self
    have hne : ¬ x.1 = key := fun e => by rw [e, cmpB_self] at hx; omega
    rw [List.foldl_cons, stepC, if_neg hne, klt_no hx, Bool.and_false, if_neg (by simp)]
    rw [stepA key val l g (out ++ [x]) (fun y hy => h y (List.mem_cons_of_mem _ hy)), List.append_assoc]
    rfl
theorem stepB (key val : ByteArray) : ∀ (l : List Pr) (out : List Pr), (∀ x ∈ l, 0 < cmpB x.1 key) → l.foldl (stepC key val) (true, out) = (true, out ++ l)
  | [], out, _ => by simp
  | x :: l, out, h => by
    have hx := h x List.mem_cons_self
    have hne : ¬ x.1 = key := fun e => by rw [e, cmpB_self] at hx; omega
    rw [List.foldl_cons, stepC, if_neg hne, if_neg (by simp)]
    rw [stepB key val l (out ++ [x]) (fun y hy => h y (List.mem_cons_of_mem _ hy)), List.append_assoc]
    rfl
def chAt (c : Ch) (a r : List Pr) : List Pr := a ++ (if c.2.2 = true then [] else [(c.1, c.2.1)]) ++ r
theorem chF_at (c : Ch) (a m r : List Pr) (ha : ∀ x ∈ a, cmpB x.1 c.1 < 0) (hm : m = [] ∨ ∃ v, m = [(c.1, v)]) (hr : ∀ x ∈ r, 0 < cmpB x.1 c.1) : chF c (a ++ m ++ r) = chAt c a r := by
  obtain ⟨key, val, g⟩ := c
  have e1 : chW (key, val, g) (a ++ m ++ r) = r.foldl (stepC key val) (g, a) := by
    unfold chW
    rw [List.append_assoc, List.foldl_append, stepA key val a g [] ha, List.nil_append, List.foldl_append]
    rcases hm with rfl | ⟨v, rfl⟩
    · rfl
    · rw [List.foldl_cons, List.foldl_nil, stepC, if_pos rfl, klt_self, Bool.and_false, if_neg (by simp)]
  unfold chF chAt
  rw [e1]
  cases g with
  | true => rw [stepB key val r a hr]; simp
  | false =>
    cases r with
    | nil => simp
    | cons x l =>
      have hx := hr x List.mem_cons_self
      have hne : ¬ x.1 = key := fun e => by rw [e, cmpB_self] at hx; omega
      rw [List.foldl_cons, stepC, if_neg hne]
      simp only [Bool.not_false, Bool.true_and]
      rw [cmpB_anti hx, if_pos rfl, stepB key val l _ (fun y hy => hr y (List.mem_cons_of_mem _ hy))]
      simp
theorem chAt_asc (c : Ch) (a m r : List Pr) (h : ascP (a ++ m ++ r)) (ha : ∀ x ∈ a, cmpB x.1 c.1 < 0) (hr : ∀ x ∈ r, 0 < cmpB x.1 c.1) : ascP (chAt c a r) := by
  unfold ascP chAt at *
  rw [List.pairwise_append, List.pairwise_append] at h
  obtain ⟨⟨h1, h2, h3⟩, h4, h5⟩ := h
  have har : ∀ x ∈ a, ∀ y ∈ r, cmpB x.1 y.1 < 0 := fun x hx y hy => h5 x (List.mem_append_left _ hx) y hy
  have hkr : ∀ y ∈ r, cmpB c.1 y.1 < 0 := fun y hy => (cmpB_lt _ _).2 (cmpB_anti (hr y hy))
  by_cases hg : c.2.2 = true
  · rw [if_pos hg, List.append_nil, List.pairwise_append]
    exact ⟨h1, h4, har⟩
  · rw [if_neg hg, List.pairwise_append, List.pairwise_append]
    refine ⟨⟨h1, by simp, fun x hx y hy => ?_⟩, h4, fun x hx y hy => ?_⟩
    · simp at hy; subst hy; exact ha x hx
    · rw [List.mem_append] at hx
      rcases hx with hx | hx
      · exact har x hx y hy
      · simp at hx; subst hx; exact hkr y hy
theorem getD_at {α : Type} (rs : List α) (i : Nat) (h : i < rs.length) {d : α} : rs.getD i d = rs[i] := by simp [List.getD, h]
theorem asc_of {rs : List Pr} (h : stateOk rs = true) : ascP rs := by
  unfold ascP
  rw [List.pairwise_iff_getElem]
  intro i j hi hj hij
  have := asc' h hij hj
  unfold kAt at this
  rwa [getD_at _ _ hi, getD_at _ _ hj] at this
theorem asc_mono {rs : List Pr} (h : ascP rs) (key : ByteArray) : ∀ t m, t ≤ m → m < rs.length → cmpB (kAt rs m) key < 0 → cmpB (kAt rs t) key < 0 := fun t m ht hm hk => by
  rcases Nat.eq_or_lt_of_le ht with e | e
  · subst e; exact hk
  · unfold ascP at h
    rw [List.pairwise_iff_getElem] at h
    have := h t m (by omega) hm e
    unfold kAt at *
    rw [getD_at _ _ hm] at hk
    rw [getD_at _ _ (by omega)]
    exact cmpB_trans _ _ _ this hk
theorem part_at {rs : List Pr} (h : ascP rs) (key : ByteArray) (p : Nat) (hp : p ≤ rs.length) (h1 : ∀ t, t < p → cmpB (kAt rs t) key < 0) (h2 : ∀ t, p ≤ t → t < rs.length → 0 ≤ cmpB (kAt rs t) key) (d : Nat) (hd : d = if p < rs.length ∧ cmpB (kAt rs p) key = 0 then 1 else 0) :
    rs = rs.take p ++ (rs.drop p).take d ++ rs.drop (p + d) ∧ (∀ x ∈ rs.take p, cmpB x.1 key < 0) ∧ ((rs.drop p).take d = [] ∨ ∃ v, (rs.drop p).take d = [(key, v)]) ∧ (∀ x ∈ rs.drop (p + d), 0 < cmpB x.1 key) := by
  have hasc := h
  unfold ascP at h
  rw [List.pairwise_iff_getElem] at h
  refine ⟨?_, ?_, ?_, ?_⟩
  · rw [List.append_assoc, ← List.drop_drop, List.take_append_drop, List.take_append_drop]
  · intro x hx
    obtain ⟨i, hi, rfl⟩ := List.getElem_of_mem hx
    rw [List.length_take] at hi
    have := h1 i (by omega)
    unfold kAt at this
    rw [getD_at _ _ (by omega)] at this
    rw [List.getElem_take]
    exact this
  · by_cases hc : p < rs.length ∧ cmpB (kAt rs p) key = 0
    · rw [if_pos hc] at hd
      subst hd
      right
      have e := (cmpB_zero _ _).1 hc.2
      unfold kAt at e
      rw [getD_at _ _ hc.1] at e
      refine ⟨(rs[p]'hc.1).2, ?_⟩
      rw [List.drop_eq_getElem_cons hc.1, List.take_succ_cons, List.take_zero]
      exact congrArg (fun k => [k]) (Prod.ext e rfl)
    · rw [if_neg hc] at hd
      subst hd
      exact .inl (by simp)
  · intro x hx
    obtain ⟨i, hi, rfl⟩ := List.getElem_of_mem hx
    rw [List.length_drop] at hi
    rw [List.getElem_drop]
    have hq := h2 (p + d + i) (by omega) (by omega)
    unfold kAt at hq
    rw [getD_at _ _ (by omega)] at hq
    rcases Int.lt_or_eq_of_le hq with h3 | h3
    · exact h3
    · exfalso
      have e := (cmpB_zero _ _).1 h3.symm
      by_cases hi0 : d + i = 0
      · have hd0 : d = 0 := by omega
        have hi0 : i = 0 := by omega
        subst hi0
        rw [hd0] at hd
        by_cases hc : p < rs.length ∧ cmpB (kAt rs p) key = 0
        · rw [if_pos hc] at hd; cases hd
        · refine hc ⟨by omega, ?_⟩
          unfold kAt
          rw [getD_at _ _ (by omega)]
          subst hd0
          exact h3.symm
      · have h4 := h p (p + d + i) (by omega) (by omega) (by omega)
        rw [e] at h4
        have h5 := h2 p (Nat.le_refl _) (by omega)
        unfold kAt at h5
        rw [getD_at _ _ (by omega)] at h5
        omega
def apU (rs : List Pr) (b : List Ch) : List Pr := b.foldl (fun s c => chF c s) rs
theorem apU_snoc (rs : List Pr) (b : List Ch) (c : Ch) : apU rs (b ++ [c]) = chF c (apU rs b) := by unfold apU; rw [List.foldl_append]; rfl
def apC (rs : List Pr) (b : List Ch) : Int := if (stateOk rs && batchOk b) = true then (if (apU rs b).length ≤ 100 then 0 else 2) else 1
def apR (rs : List Pr) (b : List Ch) : List Pr := if apC rs b = 0 then apU rs b else []
theorem chW_len (c : Ch) : ∀ (rs : List Pr) (k : Nat), k = rs.length → (chW c rs).2.length ≤ rs.length + (if (chW c rs).1 = true ∧ c.2.2 = false then 1 else 0) ∧ (c.2.2 = true → (chW c rs).1 = true)
  | rs, 0, hk => by rw [List.eq_nil_of_length_eq_zero hk.symm]; simp [chW]
  | rs, k + 1, hk => by
    obtain ⟨b, bs, rfl⟩ : ∃ b bs, rs = bs ++ [b] := by
      rcases List.eq_nil_or_concat rs with h | ⟨l, a, h⟩
      · subst h; simp at hk
      · exact ⟨a, l, by simpa using h⟩
    have ih := chW_len c bs k (by simp at hk; omega)
    rw [chW_snoc]
    obtain ⟨key, val, g⟩ := c
    generalize chW (key, val, g) bs = st at ih ⊢
    obtain ⟨d, out⟩ := st
    unfold stepC
    rw [List.length_append, List.length_singleton]
    have hk3 := klt_self key
    cases d <;> cases hk2 : klt key b.1 <;> by_cases he : b.1 = key <;> cases g <;> simp [he, hk2, hk3] at ih hk2 ⊢ <;> omega
theorem chF_len (c : Ch) (rs : List Pr) : (chF c rs).length ≤ rs.length + 1 := by
  have := (chW_len c rs _ rfl).1
  unfold chF
  split
  · split at this <;> omega
  · rename_i h
    rw [if_neg (fun e => h e.1)] at this
    rw [List.length_append]
    simp
    omega
theorem apU_len (rs : List Pr) (b : List Ch) : ∀ k, (apU rs (b.take k)).length ≤ rs.length + k
  | 0 => by simp [apU]
  | k + 1 => by
    have ih := apU_len rs b k
    by_cases h : k < b.length
    · rw [List.take_succ_eq_append_getElem h, apU_snoc]
      have := chF_len b[k] (apU rs (b.take k))
      omega
    · rw [List.take_of_length_le (by omega)] at ih ⊢
      omega
end Go.Proofs.YtnmaknnnmjfhkagGreatDoor

namespace Go.Proofs.YtnmaknnnmjfhkagGreatDoor
open Go.RowKit Go.Sort
set_option maxRecDepth 4000
set_option linter.unusedVariables false
set_option linter.unusedSimpArgs false
theorem cmpB_rev {a b : ByteArray} (h : cmpB a b < 0) : 0 < cmpB b a := by
  rcases Int.lt_trichotomy (cmpB b a) 0 with h1 | h1 | h1
  · have := cmpB_trans a b a h h1
    rw [cmpB_self] at this
    omega
  · have := (cmpB_zero _ _).1 h1
    subst this
    rw [cmpB_self] at h
    omega
  · exact h1
theorem stateOk_iff (rs : List Pr) : stateOk rs = true ↔ rs.length ≤ 100 ∧ (∀ x ∈ rs, kOk x.1 = true ∧ vOk x.2 = true) ∧ ascP rs := by
  constructor
  · intro h
    obtain ⟨h1, h2⟩ := stateOk_of h
    refine ⟨h1, fun x hx => ?_, asc_of h⟩
    obtain ⟨i, hi, rfl⟩ := List.getElem_of_mem hx
    have := h2 i hi
    unfold prOk at this
    rw [getD_at _ _ hi] at this
    simp only [Bool.and_eq_true] at this
    exact this.1
  · rintro ⟨h1, h2, h3⟩
    refine stateOk_yes h1 (fun k hk => ?_)
    unfold prOk
    have hm := h2 _ (List.getElem_mem hk)
    rw [getD_at _ _ hk, hm.1, hm.2]
    by_cases h0 : k = 0
    · simp [h0]
    · have hk1 : k - 1 < rs.length := by omega
      rw [getD_at _ _ hk1]
      unfold ascP at h3
      rw [List.pairwise_iff_getElem] at h3
      have := h3 (k - 1) k hk1 hk (by omega)
      have h4 : klt rs[k - 1].1 rs[k].1 = true := (cmpB_lt _ _).1 this
      simp [h4]
theorem split_at (key : ByteArray) : ∀ (rs : List Pr), ascP rs → ∃ a m r, rs = a ++ m ++ r ∧ (∀ x ∈ a, cmpB x.1 key < 0) ∧ (m = [] ∨ ∃ v, m = [(key, v)]) ∧ (∀ x ∈ r, 0 < cmpB x.1 key)
  | [], _ => ⟨[], [], [], rfl, by simp, .inl rfl, by simp⟩
  | x :: l, h => by
    unfold ascP at h
    rw [List.pairwise_cons] at h
    rcases Int.lt_trichotomy (cmpB x.1 key) 0 with h1 | h1 | h1
    · obtain ⟨a, m, r, e, ha, hm, hr⟩ := split_at key l h.2
      refine ⟨x :: a, m, r, by rw [e]; rfl, fun y hy => ?_, hm, hr⟩
      rcases List.mem_cons.1 hy with rfl | hy
      · exact h1
      · exact ha y hy
    · have e := (cmpB_zero _ _).1 h1
      refine ⟨[], [x], l, rfl, by simp, .inr ⟨x.2, by rw [← e]⟩, fun y hy => ?_⟩
      rw [← e]
      exact cmpB_rev (h.1 y hy)
    · refine ⟨[], [], x :: l, rfl, by simp, .inl rfl, fun y hy => ?_⟩
      rcases List.mem_cons.1 hy with rfl | hy
      · exact h1
      · have h2 : cmpB key x.1 < 0 := (cmpB_lt _ _).2 (cmpB_anti h1)
        exact cmpB_rev (cmpB_trans _ _ _ h2 (h.1 y hy))
theorem chF_split (c : Ch) (rs : List Pr) (h : ascP rs) : ∃ a m r, rs = a ++ m ++ r ∧ (∀ x ∈ a, cmpB x.1 c.1 < 0) ∧ (m = [] ∨ ∃ v, m = [(c.1, v)]) ∧ (∀ x ∈ r, 0 < cmpB x.1 c.1) ∧ chF c rs = chAt c a r := by
  obtain ⟨a, m, r, e, ha, hm, hr⟩ := split_at c.1 rs h
  exact ⟨a, m, r, e, ha, hm, hr, by rw [e]; exact chF_at c a m r ha hm hr⟩
theorem chF_asc (c : Ch) (rs : List Pr) (h : ascP rs) : ascP (chF c rs) := by
  obtain ⟨a, m, r, e, ha, hm, hr, hc⟩ := chF_split c rs h
  rw [hc]
  rw [e] at h
  exact chAt_asc c a m r h ha hr
theorem chF_mem (c : Ch) (rs : List Pr) (h : ascP rs) : ∀ x ∈ chF c rs, x ∈ rs ∨ (x = (c.1, c.2.1) ∧ c.2.2 = false) := by
  obtain ⟨a, m, r, e, ha, hm, hr, hc⟩ := chF_split c rs h
  rw [hc]
  intro x hx
  unfold chAt at hx
  rw [List.mem_append, List.mem_append] at hx
  rcases hx with (hx | hx) | hx
  · exact .inl (by rw [e]; simp [hx])
  · split at hx
    · simp at hx
    · rename_i hg
      simp at hx
      exact .inr ⟨hx, by simpa using hg⟩
  · exact .inl (by rw [e]; simp [hx])
theorem apU_asc (rs : List Pr) (h : ascP rs) : ∀ (b : List Ch), ascP (apU rs b) := by
  intro b
  unfold apU
  induction b generalizing rs with
  | nil => exact h
  | cons c l ih => exact ih _ (chF_asc c rs h)
theorem apU_mem (rs : List Pr) (h : ascP rs) : ∀ (b : List Ch), ∀ x ∈ apU rs b, x ∈ rs ∨ ∃ c ∈ b, x = (c.1, c.2.1) := by
  intro b
  unfold apU
  induction b generalizing rs with
  | nil => exact fun x hx => .inl hx
  | cons c l ih =>
    intro x hx
    rcases ih _ (chF_asc c rs h) x hx with h1 | ⟨c', h1, h2⟩
    · rcases chF_mem c rs h x h1 with h3 | h3
      · exact .inl h3
      · exact .inr ⟨c, List.mem_cons_self, h3.1⟩
    · exact .inr ⟨c', List.mem_cons_of_mem _ h1, h2⟩
theorem chOk_parts {c : Ch} (h : chOk c = true) : kOk c.1 = true ∧ vOk c.2.1 = true := by
  unfold chOk at h
  simp only [Bool.and_eq_true] at h
  exact h.1
theorem apC_zero {rs : List Pr} {b : List Ch} (h : apC rs b = 0) : stateOk rs = true ∧ batchOk b = true ∧ (apU rs b).length ≤ 100 := by
  unfold apC at h
  split at h
  · rename_i h1
    simp only [Bool.and_eq_true] at h1
    split at h
    · rename_i h2; exact ⟨h1.1, h1.2, h2⟩
    · cases h
  · cases h
theorem apU_ok {rs : List Pr} {b : List Ch} (h : apC rs b = 0) : stateOk (apU rs b) = true := by
  obtain ⟨h1, h2, h3⟩ := apC_zero h
  obtain ⟨_, k2, k3⟩ := (stateOk_iff rs).1 h1
  refine (stateOk_iff _).2 ⟨h3, fun x hx => ?_, apU_asc rs k3 b⟩
  rcases apU_mem rs k3 b x hx with h4 | ⟨c, h4, rfl⟩
  · exact k2 x h4
  · exact chOk_parts ((batchOk_of h2).2 c h4)
end Go.Proofs.YtnmaknnnmjfhkagGreatDoor
