import Derived.Test.YtnmaknnnmjfhkagGreatDoorQhxOpenVS
import Derived.Test.YtnmaknnnmjfhkagGreatDoorQhxOpenRbP
import Derived.Test.YtnmaknnnmjfhkagGreatDoorQhxOpenDsk
import Derived.Test.YtnmaknnnmjfhkagGreatDoorQhxOpenPage3
import Derived.Test.YtnmaknnnmjfhkagGreatDoorMhXOpen0
import Derived.Test.YtnmaknnnmjfhkagGreatDoorMhXOpen1
import Derived.Test.YtnmaknnnmjfhkagGreatDoorQhxOpenFill
import Derived.Deep.RegionHeld
import Derived.Test.YtnmaknnnmjfhkagGreatDoorQhxOpenCpy
import Derived.Test.YtnmaknnnmjfhkagGreatDoorQhxOpenValid
import Derived.Test.YtnmaknnnmjfhkagGreatDoorQhxOpenDrs
import Derived.Laws.ResultCell
import Derived.Great.BuildSlice

set_option maxHeartbeats 16000000
set_option maxRecDepth 8000
namespace Go.Proofs.YtnmaknnnmjfhkagGreatDoor
open Go.RowKit
set_option linter.unusedVariables false
set_option linter.unusedSimpArgs false

abbrev Pr := ByteArray × ByteArray
abbrev nov : Value := .slice none 0 0
/-- A pair as a change. -/
def chOf (p : Pr) : Ch := (p.1, p.2, false)
/-- The batch number k of so many pairs. -/
def chunkAt (rs : List Pr) (k : Nat) : List Ch := ((rs.drop (k * 20)).take 20).map chOf
/-- The batches of the first i pairs. -/
def snapU (rs : List Pr) (i : Nat) : List (List Ch) := (List.range ((i + 19) / 20)).map (chunkAt (rs.take i))
/-- What Snapshot gives. -/
def snapOf (rs : List Pr) : List (List Ch) := if stateOk rs = true then snapU rs rs.length else []

theorem snapU_length (rs : List Pr) (i : Nat) : (snapU rs i).length = (i + 19) / 20 := by simp [snapU]
theorem snapU_zero (rs : List Pr) : snapU rs 0 = [] := rfl
theorem chunk_old (rs : List Pr) (i k : Nat) (hi : i < rs.length) (hk : k * 20 + 20 ≤ i) : chunkAt (rs.take (i + 1)) k = chunkAt (rs.take i) k := by
  unfold chunkAt
  congr 1
  rw [List.drop_take, List.drop_take, List.take_take, List.take_take]
  congr 1
  omega
theorem chunk_new (rs : List Pr) (i k : Nat) (hi : i < rs.length) (h1 : k * 20 ≤ i) (h2 : i < k * 20 + 20) (d : Pr) : chunkAt (rs.take (i + 1)) k = chunkAt (rs.take i) k ++ [chOf (rs.getD i d)] := by
  unfold chunkAt
  rw [List.drop_take, List.drop_take, List.take_take, List.take_take, Nat.min_eq_right (by omega), Nat.min_eq_right (by omega)]
  rw [show i + 1 - k * 20 = (i - k * 20) + 1 by omega, List.take_add_one, List.map_append]
  congr 1
  rw [List.getElem?_drop, show k * 20 + (i - k * 20) = i by omega]
  simp [List.getD, hi]
/-- A new batch is begun. -/
theorem snapU_begin (rs : List Pr) (i : Nat) (hi : i < rs.length) (h : i % 20 = 0) (d : Pr) : snapU rs (i + 1) = snapU rs i ++ [[chOf (rs.getD i d)]] := by
  unfold snapU
  rw [show (i + 1 + 19) / 20 = (i + 19) / 20 + 1 by omega, List.range_succ, List.map_append]
  have e0 : chunkAt (rs.take i) (i / 20) = [] := by
    unfold chunkAt
    rw [List.drop_eq_nil_of_le (by rw [List.length_take]; omega)]
    rfl
  congr 1
  · exact List.map_congr_left fun k hk => chunk_old rs i k hi (by simp at hk; omega)
  · have e1 : (i + 19) / 20 = i / 20 := by omega
    rw [e1, List.map_singleton, chunk_new rs i (i / 20) hi (by omega) (by omega) d, e0]
    rfl
/-- The last batch is gone on with. -/
theorem snapU_on (rs : List Pr) (i : Nat) (hi : i < rs.length) (h : i % 20 ≠ 0) (d : Pr) : ∃ bss cs, snapU rs i = bss ++ [cs] ∧ snapU rs (i + 1) = bss ++ [cs ++ [chOf (rs.getD i d)]] ∧ cs.length ≤ 20 := by
  refine ⟨(List.range (i / 20)).map (chunkAt (rs.take i)), chunkAt (rs.take i) (i / 20), ?_, ?_, ?_⟩
  · unfold snapU
    rw [show (i + 19) / 20 = i / 20 + 1 by omega, List.range_succ, List.map_append]
    rfl
  · unfold snapU
    rw [show (i + 1 + 19) / 20 = i / 20 + 1 by omega, List.range_succ, List.map_append, List.map_singleton, chunk_new rs i (i / 20) hi (by omega) (by omega) d]
    congr 1
    exact List.map_congr_left fun k hk => chunk_old rs i k hi (by simp at hk; omega)
  · unfold chunkAt; simp; omega
theorem chunk_len (rs : List Pr) (k : Nat) : (chunkAt rs k).length = min 20 (rs.length - k * 20) := by unfold chunkAt; simp
theorem snapU_all (rs : List Pr) : snapU rs rs.length = (List.range ((rs.length + 19) / 20)).map (chunkAt rs) := by unfold snapU; rw [List.take_length]
theorem snap_mem {rs : List Pr} {b : List Ch} (h : b ∈ snapU rs rs.length) : b.length ≤ 20 ∧ ∀ x ∈ b, (x.1, x.2.1) ∈ rs := by
  rw [snapU_all] at h
  obtain ⟨k, hk, rfl⟩ := List.mem_map.1 h
  refine ⟨by rw [chunk_len]; omega, fun x hx => ?_⟩
  unfold chunkAt at hx
  obtain ⟨p, hp, rfl⟩ := List.mem_map.1 hx
  exact List.mem_of_mem_drop (List.mem_of_mem_take hp)

/-- Batches that a call has made: each of them its own, and none in another's block. -/
def Bat (w : World) (base : Nat) (v : Value) (bss : List (List Ch)) : Prop :=
  ∃ vs : List Value, w.ownsRow base 54 1 v bss.length vs ∧ (∀ i, i < bss.length → w.ownsRow base 69 3 (vs.getD i nov) (bss.getD i []).length (chcells (bss.getD i []))) ∧
    ∀ i j k, i < j → j < bss.length → (vs.getD i nov).ownBlock = some k → (vs.getD j nov).ownBlock ≠ some k
theorem Bat.nil (w : World) (base : Nat) : Bat w base nov [] := ⟨[], World.ownsRow_nil _ _ _ _, fun i h => absurd h (by simp), fun i j k _ h => absurd h (by simp)⟩
theorem Bat.below {w w' : World} {base : Nat} {v : Value} {bss : List (List Ch)} (h : Bat w base v bss) (hb : Below w.heap.size w w') : Bat w' base v bss := by
  obtain ⟨vs, h1, h2, h3⟩ := h
  exact ⟨vs, owns_below h1 hb, fun i hi => owns_below (h2 i hi) hb, h3⟩
theorem rows_apart {w : World} {b1 b2 : Nat} {e1 e2 : TypeId} {s1 s2 : Nat} {v1 v2 : Value} {n1 n2 : Nat} {x1 x2 : List Value} (h1 : w.ownsRow b1 e1 s1 v1 n1 x1) (h2 : w.ownsRow b2 e2 s2 v2 n2 x2) (he : e1 ≠ e2) : v1.ownBlock = none ∨ v1.ownBlock ≠ v2.ownBlock := by
  rcases h1.2 with ⟨rfl, _⟩ | ⟨g, cap, cur, rfl, _, hg, _⟩
  · exact .inl rfl
  · right
    rcases h2.2 with ⟨rfl, _⟩ | ⟨g', cap', cur', rfl, _, hg', _⟩
    · simp [Value.ownBlock]
    · simp only [Value.ownBlock, ne_eq, Option.some.injEq]
      intro e
      subst e
      rw [hg] at hg'
      cases hg'
      exact he rfl
theorem Bat.kept {w w' : World} {base : Nat} {v : Value} {bss : List (List Ch)} {row : Option Nat} (h : Bat w base v bss) (hg : w.grownBy w' row) (hr : ∀ k, row = some k → base > k ∨ w.heap.size ≤ k) : Bat w' base v bss := by
  obtain ⟨vs, h1, h2, h3⟩ := h
  have key : ∀ {e : TypeId} {s : Nat} {u : Value} {n : Nat} {xs : List Value}, w.ownsRow base e s u n xs → w'.ownsRow base e s u n xs := fun hh => by
    refine hh.kept hg ?_
    cases hu : (Value.ownBlock _) with
    | none => exact .inl rfl
    | some k =>
      refine .inr fun e => ?_
      have := hh.lt k hu
      rcases hr k e.symm with h | h <;> omega
  exact ⟨vs, key h1, fun i hi => key (h2 i hi), h3⟩
/-- One batch more. -/
theorem Bat.push {w w1 : World} {base : Nat} {v v' x : Value} {bss : List (List Ch)} {cs : List Ch} {vs : List Value} (h1 : w.ownsRow base 54 1 v bss.length vs) (h2 : ∀ i, i < bss.length → w.ownsRow base 69 3 (vs.getD i nov) (bss.getD i []).length (chcells (bss.getD i [])))
    (h3 : ∀ i j k, i < j → j < bss.length → (vs.getD i nov).ownBlock = some k → (vs.getD j nov).ownBlock ≠ some k) (hx : w.ownsRow base 69 3 x cs.length (chcells cs)) (hxn : ∀ i k, i < bss.length → (vs.getD i nov).ownBlock = some k → x.ownBlock ≠ some k)
    (ho : w1.ownsRow base 54 1 v' (bss.length + 1) (vs ++ [x])) (hg : w.grownBy w1 v.ownBlock) : Bat w1 base v' (bss ++ [cs]) := by
  have hvl : vs.length = bss.length := by have := h1.1; omega
  have ne : (69 : TypeId) ≠ 54 := by decide
  refine ⟨vs ++ [x], by simpa using ho, fun i hi => ?_, fun i j k hij hj he => ?_⟩
  · by_cases hlt : i < bss.length
    · have e1 : (vs ++ [x]).getD i nov = vs.getD i nov := by simp [List.getD, List.getElem?_append_left (show i < vs.length by omega)]
      have e2 : (bss ++ [cs]).getD i [] = bss.getD i [] := by simp [List.getD, List.getElem?_append_left hlt]
      rw [e1, e2]
      exact (h2 i hlt).kept hg (rows_apart (h2 i hlt) h1 ne)
    · have hi' : i = bss.length := by simp at hi; omega
      subst hi'
      have e1 : (vs ++ [x]).getD bss.length nov = x := by rw [← hvl]; simp [List.getD]
      have e2 : (bss ++ [cs]).getD bss.length [] = cs := by simp [List.getD]
      rw [e1, e2]
      exact hx.kept hg (rows_apart hx h1 ne)
  · simp only [List.length_append, List.length_cons, List.length_nil] at hj
    have e1 : (vs ++ [x]).getD i nov = vs.getD i nov := by simp [List.getD, List.getElem?_append_left (show i < vs.length by omega)]
    rw [e1] at he
    by_cases hlt : j < bss.length
    · have e2 : (vs ++ [x]).getD j nov = vs.getD j nov := by simp [List.getD, List.getElem?_append_left (show j < vs.length by omega)]
      rw [e2]
      exact h3 i j k hij hlt he
    · have hj' : j = bss.length := by omega
      subst hj'
      have e2 : (vs ++ [x]).getD bss.length nov = x := by rw [← hvl]; simp [List.getD]
      rw [e2]
      exact hxn i k hij he
/-- What is read of batches. -/
def Bts (w : World) (a : Option Addr) (bss : List (List Ch)) : Prop :=
  bss = [] ∨ ∃ g, a = some ⟨g, 0, none⟩ ∧ g < w.heap.size ∧ ∀ i, i < bss.length → ∃ p c, w.cell? ⟨g, i, none⟩ = some (.slice p (bss.getD i []).length c) ∧ Chs w p (bss.getD i [])
theorem Bts.below {w w' : World} {a : Option Addr} {bss : List (List Ch)} (h : Bts w a bss) (hb : Below w.heap.size w w') : Bts w' a bss := by
  rcases h with h | ⟨g, h1, h2, h3⟩
  · exact .inl h
  · refine .inr ⟨g, h1, Nat.lt_of_lt_of_le h2 hb.size, fun i hi => ?_⟩
    obtain ⟨p, c, h4, h5⟩ := h3 i hi
    exact ⟨p, c, (hb.cell (p := ⟨g, i, none⟩) h2).trans h4, h5.below hb⟩
theorem owns_chs' {w : World} {B : Nat} {e : TypeId} {y : Value} {o : List Ch} (h : w.ownsRow B e 3 y o.length (chcells o)) : ∃ a c, y = .slice a o.length c ∧ Chs w a o := by
  rcases owns_forms h with ⟨h1, h2⟩ | ⟨g, cap, h1, h2, _, h3⟩
  · have : o = [] := List.eq_nil_of_length_eq_zero h2
    subst this
    exact ⟨none, 0, h1, .inl rfl⟩
  · exact ⟨_, cap, h1, h3.chs⟩
theorem Bat.bts {w : World} {base : Nat} {v : Value} {bss : List (List Ch)} (h : Bat w base v bss) : ∃ a c, v = .slice a bss.length c ∧ Bts w a bss := by
  obtain ⟨vs, h1, h2, h3⟩ := h
  rcases owns_forms h1 with ⟨e1, e2⟩ | ⟨g, cap, e1, e2, e3, e4⟩
  · have : bss = [] := List.eq_nil_of_length_eq_zero e2
    subst this
    exact ⟨none, 0, e1, .inl rfl⟩
  · refine ⟨_, cap, e1, .inr ⟨g, rfl, e3, fun i hi => ?_⟩⟩
    obtain ⟨p, c, f1, f2⟩ := owns_chs' (h2 i hi)
    have hvl : vs.length = bss.length := by have := h1.1; omega
    refine ⟨p, c, e4.cell i _ ?_, f2⟩
    rw [← f1]
    simp [List.getD, List.getElem?_eq_getElem (show i < vs.length by omega)]
theorem Bts.at {w : World} {a : Option Addr} {bss : List (List Ch)} (h : Bts w a bss) {k : Nat} (hk : k < bss.length) : ∃ g p c, a = some ⟨g, 0, none⟩ ∧ g < w.heap.size ∧ w.cell? ⟨g, k, none⟩ = some (.slice p (bss.getD k []).length c) ∧ Chs w p (bss.getD k []) := by
  rcases h with h | ⟨g, h1, h2, h3⟩
  · subst h; simp at hk
  · obtain ⟨p, c, h4, h5⟩ := h3 k hk
    exact ⟨g, p, c, h1, h2, h4, h5⟩
end Go.Proofs.YtnmaknnnmjfhkagGreatDoor

namespace Go.Proofs.YtnmaknnnmjfhkagGreatDoor
open Go.RowKit
set_option linter.unusedVariables false
set_option linter.unusedSimpArgs false
set_option maxRecDepth 4000

theorem info_chS : (Tryz.prog.info? 69).map (fun i => (i.zero, i.size, i.bytes)) = some (some (.agg #[.string ByteArray.empty, .string ByteArray.empty, .bool false]), 3, 40) := by kernel_rfl
theorem info_slS : (Tryz.prog.info? 54).map (fun i => (i.zero, i.size, i.bytes)) = some (some (.slice none 0 0), 1, 24) := by kernel_rfl
theorem info_partsS {P : Program} {e : TypeId} {z : Value} {size bytes : Nat} (h : (P.info? e).map (fun i => (i.zero, i.size, i.bytes)) = some (some z, size, bytes)) : ∃ i, P.info? e = some i ∧ i.zero = some z ∧ i.size = size ∧ i.bytes = bytes := by
  obtain ⟨i, hi, hh⟩ := Option.map_eq_some_iff.1 h
  simp only [Prod.mk.injEq] at hh
  exact ⟨i, hi, hh⟩
theorem below_grownS {W w w1 : World} {e : TypeId} {size : Nat} {v : Value} {n B : Nat} {xs : List Value} (hb : Below B W w) (own : w.ownsRow B e size v n xs) (hg : w.grownBy w1 v.ownBlock) (hB : B ≤ w.heap.size) : Below B W w1 :=
  hb.trans ⟨hg.os, hg.tape, hg.output, hg.size, fun k hk => hg.block k (by omega) (fun he => by have := (own.lt k he.symm).1; omega)⟩
theorem owns_mono {w : World} {b b' : Nat} {e : TypeId} {s : Nat} {v : Value} {n : Nat} {xs : List Value} (h : w.ownsRow b e s v n xs) (hb : b' ≤ b) : w.ownsRow b' e s v n xs := by
  refine ⟨h.1, ?_⟩
  rcases h.2 with h0 | ⟨g, cap, cur, h1, h2, h3⟩
  · exact .inl h0
  · exact .inr ⟨g, cap, cur, h1, Nat.le_trans hb h2, h3⟩
theorem Bat.mono {w : World} {b b' : Nat} {v : Value} {bss : List (List Ch)} (h : Bat w b v bss) (hb : b' ≤ b) : Bat w b' v bss := by
  obtain ⟨vs, h1, h2, h3⟩ := h
  exact ⟨vs, owns_mono h1 hb, fun i hi => owns_mono (h2 i hi) hb, h3⟩
/-- The rest of batches, beside the last one. -/
structure Rest (w : World) (base : Nat) (bss : List (List Ch)) (vs : List Value) (x : Value) : Prop where
  len : vs.length = bss.length
  own : ∀ i, i < bss.length → w.ownsRow base 69 3 (vs.getD i nov) (bss.getD i []).length (chcells (bss.getD i []))
  apart : ∀ i j k, i < j → j < bss.length → (vs.getD i nov).ownBlock = some k → (vs.getD j nov).ownBlock ≠ some k
  last : ∀ i k, i < bss.length → (vs.getD i nov).ownBlock = some k → x.ownBlock ≠ some k
theorem Bat.last {w : World} {base : Nat} {v : Value} {bss : List (List Ch)} {cs : List Ch} (h : Bat w base v (bss ++ [cs])) : ∃ g cap vs p c, v = .slice (some ⟨g, 0, none⟩) (bss.length + 1) cap ∧ w.ownsRow base 54 1 v (bss.length + 1) (vs ++ [.slice p cs.length c]) ∧ w.ownsRow base 69 3 (.slice p cs.length c) cs.length (chcells cs) ∧ Rest w base bss vs (.slice p cs.length c) := by
  obtain ⟨vs, h1, h2, h3⟩ := h
  have hvl : vs.length = bss.length + 1 := by have := h1.1; simp at this; omega
  obtain ⟨us, x, rfl⟩ : ∃ us x, vs = us ++ [x] := ⟨vs.dropLast, vs.getLast (by intro e; subst e; simp at hvl), (List.dropLast_concat_getLast _).symm⟩
  have hul : us.length = bss.length := by simp at hvl; exact hvl
  have hx := h2 bss.length (by simp)
  have e1 : (us ++ [x]).getD bss.length nov = x := by rw [← hul]; simp [List.getD]
  have e2 : (bss ++ [cs]).getD bss.length [] = cs := by simp [List.getD]
  rw [e1, e2] at hx
  have f1 : ∀ i, i < bss.length → (us ++ [x]).getD i nov = us.getD i nov := fun i hi => by simp [List.getD, List.getElem?_append_left (show i < us.length by omega)]
  have f2 : ∀ i, i < bss.length → (bss ++ [cs]).getD i [] = bss.getD i [] := fun i hi => by simp [List.getD, List.getElem?_append_left hi]
  obtain ⟨p, c, rfl, _⟩ := owns_chs' hx
  simp only [List.length_append, List.length_cons, List.length_nil] at h1
  obtain ⟨g, cap, hv⟩ : ∃ g cap, v = .slice (some ⟨g, 0, none⟩) (bss.length + 1) cap := by
    rcases owns_forms h1 with ⟨_, h0⟩ | ⟨g, cap, h0, _⟩
    · omega
    · exact ⟨g, cap, h0⟩
  refine ⟨g, cap, us, p, c, hv, h1, hx, hul, fun i hi => ?_, fun i j k hij hj he => ?_, fun i k hi he => ?_⟩
  · have := h2 i (by simp; omega)
    rwa [f1 i hi, f2 i hi] at this
  · have := h3 i j k hij (by simp; omega)
    rw [f1 i (by omega), f1 j hj] at this
    exact this he
  · have := h3 i bss.length k hi (by simp)
    rw [f1 i hi, e1] at this
    exact this he
/-- The last batch is put anew. -/
theorem Rest.relast {w w1 : World} {base g cap : Nat} {bss : List (List Ch)} {cs : List Ch} {vs : List Value} {x x' : Value} {n0 : Nat} {cs0 : List Ch} (hr : Rest w base bss vs x) (hb : base ≤ w.heap.size)
    (ho : w.ownsRow base 54 1 (.slice (some ⟨g, 0, none⟩) (bss.length + 1) cap) (bss.length + 1) (vs ++ [x])) (hx : w.ownsRow base 69 3 x n0 (chcells cs0))
    (hg : w.grownBy w1 x.ownBlock) (hx' : w1.ownsRow base 69 3 x' cs.length (chcells cs)) (hn : x.ownBlock = x'.ownBlock ∨ x'.ownBlock = some w.heap.size) :
    Bat (w1.setCell ⟨g, bss.length, none⟩ x') base (.slice (some ⟨g, 0, none⟩) (bss.length + 1) cap) (bss ++ [cs]) := by
  have ne : (69 : TypeId) ≠ 54 := by decide
  have hul := hr.len
  have ho1 : w1.ownsRow base 54 1 (.slice (some ⟨g, 0, none⟩) (bss.length + 1) cap) (bss.length + 1) (vs ++ [x]) := ho.kept hg (by
    rcases rows_apart ho hx (Ne.symm ne) with h | h
    · exact .inl h
    · exact .inr h)
  have hgs : w1.grownBy (w1.setCell ⟨g, bss.length, none⟩ x') (some g) := ⟨rfl, rfl, rfl, by simp [World.setCell], fun k _ hk => Below.heap_setCell _ _ _ k (fun e => hk (by rw [e]))⟩
  have ap : ∀ {u : Value} {n : Nat} {xs : List Value}, w1.ownsRow base 69 3 u n xs → (w1.setCell ⟨g, bss.length, none⟩ x').ownsRow base 69 3 u n xs := fun h => h.kept hgs (rows_apart h ho1 ne)
  have old : ∀ i, i < bss.length → w1.ownsRow base 69 3 (vs.getD i nov) (bss.getD i []).length (chcells (bss.getD i [])) := fun i hi => (hr.own i hi).kept hg (by
    cases hk : (vs.getD i nov).ownBlock with
    | none => exact .inl rfl
    | some k => exact .inr fun e => hr.last i k hi hk e.symm)
  have f1 : ∀ i, i < bss.length → (vs ++ [x']).getD i nov = vs.getD i nov := fun i hi => by simp [List.getD, List.getElem?_append_left (show i < vs.length by omega)]
  have f2 : ∀ i, i < bss.length → (bss ++ [cs]).getD i [] = bss.getD i [] := fun i hi => by simp [List.getD, List.getElem?_append_left hi]
  have e1 : (vs ++ [x']).getD bss.length nov = x' := by rw [← hul]; simp [List.getD]
  have e2 : (bss ++ [cs]).getD bss.length [] = cs := by simp [List.getD]
  refine ⟨vs ++ [x'], ?_, fun i hi => ?_, fun i j k hij hj he => ?_⟩
  · refine ⟨by simp [hul], .inr ?_⟩
    rcases ho1.2 with ⟨h0, _⟩ | ⟨g', cap', cur, h1, h2, h3, h4, h5, h6, h7⟩
    · cases h0
    · cases h1
      refine ⟨g, cap, cur.set! bss.length x', by simp, h2, ?_, by simpa using h4, h5, by simpa using h6, ?_⟩
      · have hlt := (Array.getElem?_eq_some_iff.1 h3).1
        have hk := (Array.getElem?_eq_some_iff.1 h3).2
        show (w1.heap.modify g _)[g]? = _
        rw [Array.getElem?_eq_getElem (by rw [Array.size_modify]; exact hlt), Array.getElem_modify_self, hk]
        rfl
      · have hz : cur.toList.length = cur.size := by simp
        have hl : bss.length < cur.toList.length := by omega
        simp only [Nat.mul_one, List.length_append, List.length_cons, List.length_nil] at h7 ⊢
        have : (cur.set! bss.length x').toList = cur.toList.set bss.length x' := by simp
        rw [this, Nat.zero_add, List.take_set, h7, List.set_append_right _ _ (by omega), hul]
        simp
  · by_cases hlt : i < bss.length
    · rw [f1 i hlt, f2 i hlt]; exact ap (old i hlt)
    · have : i = bss.length := by simp at hi; omega
      subst this
      rw [e1, e2]; exact ap hx'
  · simp only [List.length_append, List.length_cons, List.length_nil] at hj
    rw [f1 i (by omega)] at he
    by_cases hlt : j < bss.length
    · rw [f1 j hlt]; exact hr.apart i j k hij hlt he
    · have : j = bss.length := by omega
      subst this
      rw [e1]
      rcases hn with h | h
      · rw [← h]; exact hr.last i k hij he
      · rw [h]
        intro e
        have := (hr.own i hij).lt k he
        simp at e
        omega
end Go.Proofs.YtnmaknnnmjfhkagGreatDoor

namespace Go.Proofs.YtnmaknnnmjfhkagGreatDoor
open Go.RowKit
theorem form_i_no (k l m : Int) (p : ByteArray) (n : Int) (w : World) (hp : p.size ≤ 1048576) (hok : pageOk k l m p n = false) :
    Calls Tryz.prog 228 #[pageV k l m p, .int .i64 n] w fun e w' => e = .returned (.string ByteArray.empty) ∧ Below w.heap.size w w' := by
  go_enter Tryz.func228, Tryz.ntmps228
  go_wp2_with (go_at_call 244; refine (ok_i k l m p n _ hp).mono ?_; rw [hok]; rintro e w1 ⟨rfl, hb1⟩)
  go_ret
  exact ⟨rfl, ((Below.refl _ _).alloc (Nat.le_refl _) _).trans (hb1.mono (by simp))⟩

set_option maxRecDepth 4000 in
set_option maxHeartbeats 16000000 in
theorem form_i (k l m : Int) (p : ByteArray) (n : Nat) (w : World) (hok : pageOk k l m p n = true) :
    Calls Tryz.prog 228 #[pageV k l m p, .int .i64 (n : Int)] w fun e w' => e = .returned (.string (pageForm k l m p n)) ∧ Below w.heap.size w w' := by
  have hok' := of_decide_eq_true (by unfold pageOk at hok; exact hok)
  obtain ⟨hn1, hn2, hk1, hk2, hl1, hl2, hm1, hm2, hp, _⟩ := hok'
  go_enter Tryz.func228, Tryz.ntmps228
  go_wp2_with (go_at_call 244; refine (ok_i k l m p n _ (by omega)).mono ?_; rw [hok]; rintro e w1 ⟨rfl, hb1⟩; obtain ⟨q, q0, q1, q2, q3, hb2⟩ := keep4 (W := w) (v0 := .int .i64 k) (v1 := .int .i64 l) (v2 := .int .i64 m) (v3 := .string p) hb1 ⟨by simp, by simp, by simp, by simp, by simp, (Below.refl _ _).alloc (Nat.le_refl _) _⟩; clear hb1)
  refine (fill_i k l m p n _ hok).mono ?_
  rintro e w2 ⟨rfl, hb3⟩
  clear q q0 q1 q2 q3
  have hb4 := hb2.trans (hb3.mono hb2.size)
  clear hb2 hb3
  obtain ⟨xs, HX⟩ : ∃ xs, Hid (xs = nums (pageForm k l m p n)) := ⟨_, hide rfl⟩
  have hln : xs.length = 64 := by rw [HX.out, nums_length]; exact pageForm_size k l m p n (by omega)
  have hsz : (xs.map (Value.int .u8)).toArray.size = 64 := by simp [hln]
  rw [← HX.out]
  go_wp2_with (refine wpList_store_new rfl 267 _ _ rfl xs rfl rfl _ _ (.int .u8 0) (by rw [hln]; rfl) (by rw [hln]; kernel_rfl) ?_; intro wx hfm hbx _; have hcv := hfm.text (P := Tryz.prog) 47 5 9 Tryz.underlying47 Tryz.underlying5 Tryz.underlying9 0 64 64 (by omega); rw [List.drop_zero, List.take_of_length_le (by omega)] at hcv; clear hfm)
  go_ret
  refine ⟨ret_str ?_, hb4.trans (hbx.mono hb4.size)⟩
  rw [HX.out, strOfNums_nums]

theorem form_i_any (k l m : Int) (p : ByteArray) (n : Int) (w : World) (hp : p.size ≤ 1048576) :
    Calls Tryz.prog 228 #[pageV k l m p, .int .i64 n] w fun e w' => e = .returned (.string (formOf k l m p n)) ∧ Below w.heap.size w w' := by
  unfold formOf
  cases h : pageOk k l m p n with
  | true =>
    have hd := of_decide_eq_true (by unfold pageOk at h; exact h)
    have hn : 1 ≤ n := hd.1
    obtain ⟨j, rfl⟩ : ∃ j : Nat, n = (j : Int) := ⟨n.toNat, by omega⟩
    rw [if_pos rfl, Int.toNat_natCast]
    exact form_i k l m p j w h
  | false => rw [if_neg (by simp)]; exact form_i_no k l m p n w hp h
end Go.Proofs.YtnmaknnnmjfhkagGreatDoor

namespace Go.Proofs.YtnmaknnnmjfhkagGreatDoor
open Go.RowKit
set_option maxRecDepth 4000
set_option linter.unusedVariables false
set_option linter.unusedSimpArgs false
@[reducible] def rootV (t h f l : Int) : Value := .agg #[.int .i64 t, .int .i64 h, .int .i64 f, .int .i64 l]
/-- What a root may have as Half and First. -/
def rtOk (h f : Int) : Prop := 0 ≤ h ∧ h ≤ 1 ∧ 1 ≤ f ∧ f ≤ 999999000
instance (h f : Int) : Decidable (rtOk h f) := by unfold rtOk; exact inferInstance
def rtPart (h f : Int) : ByteArray := strOfNums (be 1 h) ++ strOfNums (be 4 f)
def rtForm (t h f l n : Int) : ByteArray := if rtOk h f then formOf 4 l t (rtPart h f) n else ByteArray.empty

theorem half_i (h : Int) (w : World) : Calls Tryz.prog 223 #[.int .i64 h] w fun e w' => e = .returned (.bool (decide (0 ≤ h ∧ h ≤ 1))) ∧ w' = w := by
  have hh : decide (0 ≤ h ∧ h ≤ 1) = (decide (h = 0) || decide (h = 1)) := by rw [Bool.eq_iff_iff]; simp; omega
  rw [hh]
  go_enter Tryz.func223, Tryz.ntmps223
  by_cases h1 : h = 0
  · subst h1; go_wp2; go_ret; exact ⟨rfl, rfl⟩
  · by_cases h2 : h = 1
    · subst h2; go_wp2; go_ret; exact ⟨rfl, rfl⟩
    · go_wp2; go_ret; simp [h1, h2]
theorem first_i (f : Int) (w : World) : Calls Tryz.prog 224 #[.int .i64 f] w fun e w' => e = .returned (.bool (decide (1 ≤ f ∧ f ≤ 999999000))) ∧ w' = w := by
  go_enter Tryz.func224, Tryz.ntmps224
  by_cases h1 : 1 ≤ f <;> by_cases h2 : f ≤ 999999000 <;> (go_wp2; go_ret; simp [h1, h2])

theorem rootpage_s_no (t h f l n : Int) (w : World) (hno : ¬ rtOk h f) : Calls Tryz.prog 142 #[rootV t h f l, .int .i64 n] w fun e w' => e = .returned (.string ByteArray.empty) ∧ Below w.heap.size w w' := by
  have hb0 : ∀ o, Below w.heap.size w (w.alloc o) := fun o => (Below.refl _ _).alloc (Nat.le_refl _) _
  unfold rtOk at hno
  go_enter Tryz.func142, Tryz.ntmps142
  by_cases h1 : 0 ≤ h <;> by_cases h2 : h ≤ 1 <;> by_cases h3 : 1 ≤ f <;> by_cases h4 : f ≤ 999999000 <;> first | (exfalso; omega) | (clear hno; go_wp2; go_ret; exact ⟨rfl, hb0 _⟩)

set_option maxHeartbeats 16000000 in
theorem rootpage_s_ok (t h f l n : Int) (w : World) (hok : rtOk h f) : Calls Tryz.prog 142 #[rootV t h f l, .int .i64 n] w fun e w' => e = .returned (.string (formOf 4 l t (rtPart h f) n)) ∧ Below w.heap.size w w' := by
  obtain ⟨h1, h2, h3, h4⟩ := hok
  obtain ⟨A, hA⟩ : ∃ A, strOfNums (be 1 h) = A := ⟨_, rfl⟩
  obtain ⟨B, hB⟩ : ∃ B, strOfNums (be 4 f) = B := ⟨_, rfl⟩
  have zA : A.size = 1 := by rw [← hA, strOfNums_size, be_length]
  have zB : B.size = 4 := by rw [← hB, strOfNums_size, be_length]
  have HP : Hid (rtPart h f = A ++ B) := by show _ = _; unfold rtPart; rw [hA, hB]
  have numA := fun wx => num_s' h 1 1 rfl wx (by omega) (by omega) (by omega)
  have numB := fun wx => num_s' f 4 4 rfl wx (by omega) (by omega) (by omega)
  simp only [hA] at numA
  simp only [hB] at numB
  rw [HP.out]
  have hz : (A ++ B).size ≤ 1048576 := by simp only [ByteArray.size_append]; omega
  go_enter Tryz.func142, Tryz.ntmps142
  go_wp2_with fail
  have hS : w.heap.size < (w.alloc (.cells #[.int .i64 t, .int .i64 h, .int .i64 f, .int .i64 l] 28)).heap.size ∧ (w.alloc (.cells #[.int .i64 t, .int .i64 h, .int .i64 f, .int .i64 l] 28)).cell? ⟨w.heap.size, 0, none⟩ = some (.int .i64 t) ∧ (w.alloc (.cells #[.int .i64 t, .int .i64 h, .int .i64 f, .int .i64 l] 28)).cell? ⟨w.heap.size, 1, none⟩ = some (.int .i64 h) ∧ (w.alloc (.cells #[.int .i64 t, .int .i64 h, .int .i64 f, .int .i64 l] 28)).cell? ⟨w.heap.size, 2, none⟩ = some (.int .i64 f) ∧ (w.alloc (.cells #[.int .i64 t, .int .i64 h, .int .i64 f, .int .i64 l] 28)).cell? ⟨w.heap.size, 3, none⟩ = some (.int .i64 l) ∧ Below w.heap.size w (w.alloc (.cells #[.int .i64 t, .int .i64 h, .int .i64 f, .int .i64 l] 28)) := ⟨by simp, by simp, by simp, by simp, by simp, (Below.refl _ _).alloc (Nat.le_refl _) _⟩
  have HS := hide hS
  clear hS
  go_region_held3 (fun w' => w.heap.size < w'.heap.size ∧ w'.cell? ⟨w.heap.size, 0, none⟩ = some (.int .i64 t) ∧ w'.cell? ⟨w.heap.size, 1, none⟩ = some (.int .i64 h) ∧ w'.cell? ⟨w.heap.size, 2, none⟩ = some (.int .i64 f) ∧ w'.cell? ⟨w.heap.size, 3, none⟩ = some (.int .i64 l) ∧ Below w.heap.size w w')
    (first | assumption | exact keep4 (below_drewN (Below.refl _ _) 1) HS.out | exact keep4 (by assumption) (by assumption))
    (first | (go_at_call_of 144 h; refine (numA _).mono ?_; rintro e w2 ⟨rfl, hb2⟩) | (go_at_call_of 144 f; refine (numB _).mono ?_; rintro e w3 ⟨rfl, hb3⟩) | (go_at_call 55; refine (form_s_any 4 l t (A ++ B) n _ hz).mono ?_; rintro e w4 ⟨rfl, hb4⟩))
  rename_i hSl
  have hbl := hSl.2.2.2.2.2
  clear hSl
  go_wp2
  go_ret
  exact ⟨rfl, hbl⟩
theorem rootpage_s_any (t h f l n : Int) (w : World) : Calls Tryz.prog 142 #[rootV t h f l, .int .i64 n] w fun e w' => e = .returned (.string (rtForm t h f l n)) ∧ Below w.heap.size w w' := by
  unfold rtForm
  by_cases hok : rtOk h f
  · rw [if_pos hok]; exact rootpage_s_ok t h f l n w hok
  · rw [if_neg hok]; exact rootpage_s_no t h f l n w hok

end Go.Proofs.YtnmaknnnmjfhkagGreatDoor

namespace Go.Proofs.YtnmaknnnmjfhkagGreatDoor
open Go.RowKit
set_option maxRecDepth 8000
set_option linter.unusedVariables false
set_option linter.unusedSimpArgs false

/-- What a call of the store comes to. -/
structure Dd where
  (C W S L T H F R U O : Int)
  rs : List Pr
  ops : List OpT
/-- It as a value. -/
def dnV (d : Dd) (a : Option Addr) (c : Nat) (b : Option Addr) (e : Nat) : Value := .agg #[.int .i64 d.C, .int .i64 d.W, .int .i64 d.S, .int .i64 d.L, .int .i64 d.T, .int .i64 d.H, .int .i64 d.F, .int .i64 d.R, .int .i64 d.U, .int .i64 d.O, .slice a d.rs.length c, .slice b d.ops.length e]
/-- Nothing of two rows is in one block. -/
def Apart (a : Option Addr) (n : Nat) (b : Option Addr) (m : Nat) : Prop := blk a n = none ∨ blk b m = none ∨ blk a n ≠ blk b m
/-- Its lists are its own. -/
structure OwnDn (w : World) (rs : List Pr) (ops : List OpT) (a b : Option Addr) : Prop where
  s : OwnS w a (prcells rs)
  p : OwnS w b (opcells ops)
  ne : Apart a rs.length b ops.length
theorem OwnDn.below {w w' : World} {rs : List Pr} {ops : List OpT} {a b : Option Addr} (h : OwnDn w rs ops a b) (hb : Below w.heap.size w w') : OwnDn w' rs ops a b := ⟨h.s.below hb, h.p.below hb, h.ne⟩
theorem OwnS.prs {w : World} {a : Option Addr} {rs : List Pr} (h : OwnS w a (prcells rs)) : Prs w a rs := by
  rcases h with h | ⟨g, rfl, h⟩
  · exact .inl (by have := congrArg List.length h; rw [prcells_length, List.length_nil] at this; exact List.eq_nil_of_length_eq_zero (by omega))
  · exact h.prs
theorem OwnS.ops {w : World} {a : Option Addr} {rs : List OpT} (h : OwnS w a (opcells rs)) : Ops w a rs := by
  rcases h with h | ⟨g, rfl, h⟩
  · exact .inl (by have := congrArg List.length h; rw [opcells_length, List.length_nil] at this; exact List.eq_nil_of_length_eq_zero (by omega))
  · exact h.ops
theorem prcells_ne {rs : List Pr} (h : rs.length ≠ 0) : prcells rs ≠ [] := fun e => h (by have := congrArg List.length e; rw [prcells_length, List.length_nil] at this; omega)
theorem opcells_ne {rs : List OpT} (h : rs.length ≠ 0) : opcells rs ≠ [] := fun e => h (by have := congrArg List.length e; rw [opcells_length, List.length_nil] at this; omega)
theorem ne_of_prcells {rs : List Pr} (h : prcells rs ≠ []) : rs.length ≠ 0 := fun e => h (by rw [List.eq_nil_of_length_eq_zero e]; rfl)
theorem ne_of_opcells {rs : List OpT} (h : opcells rs ≠ []) : rs.length ≠ 0 := fun e => h (by rw [List.eq_nil_of_length_eq_zero e]; rfl)

/-- What a call of the store gives, in memory of its own. -/
def DnPost (w w' : World) (x : Ending) (d : Dd) : Prop := ∃ a c b e, x = .returned (dnV d a c b e) ∧ d.rs.length ≤ c ∧ OwnDn w' d.rs d.ops a b ∧ (∀ g, blk a d.rs.length = some g → w.heap.size ≤ g) ∧ (∀ g, blk b d.ops.length = some g → w.heap.size ≤ g) ∧ Below w.heap.size w w'
def noD (C : Int) : Dd := ⟨C, 0, 0, 0, 0, 0, 0, 0, 0, 0, [], []⟩
theorem OwnS.set' {w : World} {a : Option Addr} {cs : List Value} (h : OwnS w a cs) (p : Addr) (hp : ∀ g, a = some ⟨g, 0, none⟩ → cs ≠ [] → p.block ≠ g) (v : Value) : OwnS (w.setCell p v) a cs := by
  by_cases h0 : cs = []
  · exact .inl h0
  · obtain ⟨g, rfl, hr⟩ := h.resolve_left h0
    exact .inr ⟨g, rfl, hr.other p (hp g rfl h0) v⟩
theorem OwnS.alloc' {w : World} {a : Option Addr} {cs : List Value} (h : OwnS w a cs) (o : Obj) : OwnS (w.alloc o) a cs := h.below ((Below.refl _ _).alloc (Nat.le_refl _) _)
theorem row_at {w : World} {A : Array Value} {t : TypeId} {g : Nat} (hg : w.heap.size = g) : Row (w.alloc (.cells A t)) g A.toList := by subst hg; exact row_new w A t
theorem dn_no {w w' : World} {x : Ending} {C : Int} {a b : Option Addr} {c e : Nat} (hx : x = .returned (dnV (noD C) a c b e)) (hb : Below w.heap.size w w') : DnPost w w' x (noD C) :=
  ⟨a, c, b, e, hx, Nat.zero_le _, ⟨.inl rfl, .inl rfl, .inl rfl⟩, fun g h => (by cases h), fun g h => (by cases h), hb⟩

theorem OwnS.drew' {w : World} {a : Option Addr} {cs : List Value} (h : OwnS w a cs) : OwnS w.drew a cs := h.below (Below.refl _ _).drew
end Go.Proofs.YtnmaknnnmjfhkagGreatDoor

namespace Go.Proofs.YtnmaknnnmjfhkagGreatDoor
open Go.RowKit Go.Sort
set_option maxRecDepth 4000
set_option linter.unusedVariables false
set_option linter.unusedSimpArgs false

theorem cmpB_trans (a b c : ByteArray) (h1 : cmpB a b < 0) (h2 : cmpB b c < 0) : cmpB a c < 0 := by
  unfold cmpB at *
  rw [cb_lt] at *
  exact List.lt_trans h1 h2
theorem asc_step {rs : List (ByteArray × ByteArray)} (h : stateOk rs = true) (i : Nat) (hi : i + 1 < rs.length) : cmpB (kAt rs i) (kAt rs (i + 1)) < 0 := by
  have := (stateOk_of h).2 (i + 1) hi
  unfold prOk klt at this
  simp only [Nat.add_sub_cancel, Bool.and_eq_true, Bool.or_eq_true, decide_eq_true_eq] at this
  rw [cmpB_lt]
  rcases this.2 with h | h
  · omega
  · exact h
theorem asc {rs : List (ByteArray × ByteArray)} (h : stateOk rs = true) (t : Nat) : ∀ d, t + d + 1 < rs.length → cmpB (kAt rs t) (kAt rs (t + d + 1)) < 0
  | 0, hd => asc_step h t hd
  | d + 1, hd => cmpB_trans _ _ _ (asc h t d (by omega)) (asc_step h (t + d + 1) hd)
theorem asc' {rs : List (ByteArray × ByteArray)} (h : stateOk rs = true) {t u : Nat} (htu : t < u) (hu : u < rs.length) : cmpB (kAt rs t) (kAt rs u) < 0 := by
  obtain ⟨d, rfl⟩ : ∃ d, u = t + d + 1 := ⟨u - t - 1, by omega⟩
  exact asc h t d hu
theorem mono_of {rs : List (ByteArray × ByteArray)} (h : stateOk rs = true) (key : ByteArray) : ∀ t m, t ≤ m → m < rs.length → cmpB (kAt rs m) key < 0 → cmpB (kAt rs t) key < 0 := by
  intro t m htm hm hc
  rcases Nat.lt_or_ge t m with h1 | h1
  · exact cmpB_trans _ _ _ (asc' h h1 hm) hc
  · have : t = m := by omega
    subst this; exact hc
theorem find_i (a : Option Addr) (rs : List (ByteArray × ByteArray)) (c : Nat) (key : ByteArray) (w : World) (h : Prs w a rs) (hl : rs.length ≤ 1048576) (hmono : Hid (∀ t m, t ≤ m → m < rs.length → cmpB (kAt rs m) key < 0 → cmpB (kAt rs t) key < 0)) :
    Calls Tryz.prog 119 #[.agg #[.string key], .slice a rs.length c] w fun e w' =>
      ∃ p : Nat, p ≤ rs.length ∧ (∀ t, t < p → cmpB (kAt rs t) key < 0) ∧ (∀ t, p ≤ t → t < rs.length → 0 ≤ cmpB (kAt rs t) key) ∧ e = .returned (.tuple #[.int .i64 (p : Int), .bool (decide (p < rs.length ∧ cmpB (kAt rs p) key = 0))]) ∧ Below w.heap.size w w' := by
  have hb0 : ∀ o, Below w.heap.size w (w.alloc o) := fun o => (Below.refl _ _).alloc (Nat.le_refl _) _
  go_enter Tryz.func119, Tryz.ntmps119
  go_wp2_with fail
  refine (bs_i a rs c key _ (h.below (hb0 _)) hl hmono).mono ?_
  rintro e w2 ⟨p, h1, h2, h3, rfl, hb2⟩
  obtain ⟨B, HB⟩ : ∃ B, Hid (B = decide (p < rs.length ∧ cmpB (kAt rs p) key = 0)) := ⟨_, hid rfl⟩
  rw [← HB.out]
  have H2 := hid h2
  have H3 := hid h3
  clear h2 h3
  go_wp2
  go_ret2
  refine ⟨p, h1, H2.out, H3.out, by rw [← HB.out]; rfl, (hb0 _).trans (hb2.mono (by simp))⟩

end Go.Proofs.YtnmaknnnmjfhkagGreatDoor

namespace Go.Proofs.YtnmaknnnmjfhkagGreatDoor
open Go.RowKit Go.Sort
set_option maxRecDepth 4000
set_option linter.unusedVariables false
set_option linter.unusedSimpArgs false

theorem cb_anti : ∀ (x y : List UInt8), 0 < Lib.compareBytes x y → Lib.compareBytes y x < 0
  | [], [] => by simp [Lib.compareBytes]
  | [], b :: l2 => by simp [Lib.compareBytes]
  | a :: l, [] => by simp [Lib.compareBytes]
  | a :: l, b :: l2 => by
    unfold Lib.compareBytes
    intro h
    by_cases h1 : a < b
    · simp [h1] at h
    · by_cases h2 : b < a
      · simp [h2]
      · simp only [h1, h2, if_false] at h ⊢
        exact cb_anti l l2 h
theorem cmpB_anti {a b : ByteArray} (h : 0 < cmpB a b) : klt b a = true := by
  have := cb_anti _ _ h
  exact (cmpB_lt b a).1 this
theorem cmpB_self (a : ByteArray) : cmpB a a = 0 := (cmpB_zero a a).2 rfl
theorem klt_no {a b : ByteArray} (h : cmpB a b < 0) : klt b a = false := by
  cases hk : klt b a with
  | false => rfl
  | true =>
    have h2 : cmpB b a < 0 := (cmpB_lt b a).2 hk
    have h3 := cmpB_trans a b a h h2
    rw [cmpB_self] at h3
    omega
theorem klt_self (a : ByteArray) : klt a a = false := by
  cases hk : klt a a with
  | false => rfl
  | true =>
    have h2 : cmpB a a < 0 := (cmpB_lt a a).2 hk
    rw [cmpB_self] at h2
    omega
/-- One pair of the document's change. -/
def stepC (key val : ByteArray) (st : Bool × List Pr) (p : Pr) : Bool × List Pr :=
  if p.1 = key then (if (!st.1 && klt key p.1) = true then (true, st.2 ++ [(key, val)]) else st)
  else (if (!st.1 && klt key p.1) = true then (true, st.2 ++ [(key, val)] ++ [p]) else (st.1, st.2 ++ [p]))
def chW (c : Ch) (rs : List Pr) : Bool × List Pr := rs.foldl (stepC c.1 c.2.1) (c.2.2, [])
/-- A change that is made. -/
def chF (c : Ch) (rs : List Pr) : List Pr := if (chW c rs).1 = true then (chW c rs).2 else (chW c rs).2 ++ [(c.1, c.2.1)]
theorem chW_snoc (c : Ch) (rs : List Pr) (p : Pr) : chW c (rs ++ [p]) = stepC c.1 c.2.1 (chW c rs) p := by unfold chW; rw [List.foldl_append]; rfl
def ascP (rs : List Pr) : Prop := rs.Pairwise fun x y => cmpB x.1 y.1 < 0
theorem stepA (key val : ByteArray) : ∀ (l : List Pr) (g : Bool) (out : List Pr), (∀ x ∈ l, cmpB x.1 key < 0) → l.foldl (stepC key val) (g, out) = (g, out ++ l)
  | [], g, out, _ => by simp
  | x :: l, g, out, h => by
    have hx := h x List.mem_cons_self
    have hne : ¬ x.1 = key := fun e => by rw [e, cmpB_self] at hx; omega
    rw [List.foldl_cons, stepC, if_neg hne, klt_no hx, Bool.and_false, if_neg (by simp)]
    rw [stepA key val l g (out ++ [x]) (fun y hy => h y (List.mem_cons_of_mem _ hy)), List.append_assoc]
    rfl
theorem stepB (key val : ByteArray) : ∀ (l : List Pr) (out : List Pr), (∀ x ∈ l, 0 < cmpB x.1 key) → l.foldl (stepC key val) (true, out) = (true, out ++ l)
  | [], out, _ => by simp
  | x :: l, out, h => by
    have hx := h x List.mem_cons_self
    have hne : ¬ x.1 = key := fun e => by rw [e, cmpB_self] at hx; omega
    rw [List.foldl_cons, stepC, if_neg hne, if_neg (by simp)]
    rw [stepB key val l (out ++ [x]) (fun y hy => h y (List.mem_cons_of_mem _ hy)), List.append_assoc]
    rfl
/-- The pairs ahead of a key, what is put in, and the pairs behind it. -/
def chAt (c : Ch) (a r : List Pr) : List Pr := a ++ (if c.2.2 = true then [] else [(c.1, c.2.1)]) ++ r
theorem chF_at (c : Ch) (a m r : List Pr) (ha : ∀ x ∈ a, cmpB x.1 c.1 < 0) (hm : m = [] ∨ ∃ v, m = [(c.1, v)]) (hr : ∀ x ∈ r, 0 < cmpB x.1 c.1) : chF c (a ++ m ++ r) = chAt c a r := by
  obtain ⟨key, val, g⟩ := c
  have e1 : chW (key, val, g) (a ++ m ++ r) = r.foldl (stepC key val) (g, a) := by
    unfold chW
    rw [List.append_assoc, List.foldl_append, stepA key val a g [] ha, List.nil_append, List.foldl_append]
    rcases hm with rfl | ⟨v, rfl⟩
    · rfl
    · rw [List.foldl_cons, List.foldl_nil, stepC, if_pos rfl, klt_self, Bool.and_false, if_neg (by simp)]
  unfold chF chAt
  rw [e1]
  cases g with
  | true => rw [stepB key val r a hr]; simp
  | false =>
    cases r with
    | nil => simp
    | cons x l =>
      have hx := hr x List.mem_cons_self
      have hne : ¬ x.1 = key := fun e => by rw [e, cmpB_self] at hx; omega
      rw [List.foldl_cons, stepC, if_neg hne]
      simp only [Bool.not_false, Bool.true_and]
      rw [cmpB_anti hx, if_pos rfl, stepB key val l _ (fun y hy => hr y (List.mem_cons_of_mem _ hy))]
      simp
theorem chAt_asc (c : Ch) (a m r : List Pr) (h : ascP (a ++ m ++ r)) (ha : ∀ x ∈ a, cmpB x.1 c.1 < 0) (hr : ∀ x ∈ r, 0 < cmpB x.1 c.1) : ascP (chAt c a r) := by
  unfold ascP chAt at *
  rw [List.pairwise_append, List.pairwise_append] at h
  obtain ⟨⟨h1, h2, h3⟩, h4, h5⟩ := h
  have har : ∀ x ∈ a, ∀ y ∈ r, cmpB x.1 y.1 < 0 := fun x hx y hy => h5 x (List.mem_append_left _ hx) y hy
  have hkr : ∀ y ∈ r, cmpB c.1 y.1 < 0 := fun y hy => (cmpB_lt _ _).2 (cmpB_anti (hr y hy))
  by_cases hg : c.2.2 = true
  · rw [if_pos hg, List.append_nil, List.pairwise_append]
    exact ⟨h1, h4, har⟩
  · rw [if_neg hg, List.pairwise_append, List.pairwise_append]
    refine ⟨⟨h1, by simp, fun x hx y hy => ?_⟩, h4, fun x hx y hy => ?_⟩
    · simp at hy; subst hy; exact ha x hx
    · rw [List.mem_append] at hx
      rcases hx with hx | hx
      · exact har x hx y hy
      · simp at hx; subst hx; exact hkr y hy
theorem getD_at {α : Type} (rs : List α) (i : Nat) (h : i < rs.length) {d : α} : rs.getD i d = rs[i] := by simp [List.getD, h]
theorem asc_of {rs : List Pr} (h : stateOk rs = true) : ascP rs := by
  unfold ascP
  rw [List.pairwise_iff_getElem]
  intro i j hi hj hij
  have := asc' h hij hj
  unfold kAt at this
  rwa [getD_at _ _ hi, getD_at _ _ hj] at this
theorem asc_mono {rs : List Pr} (h : ascP rs) (key : ByteArray) : ∀ t m, t ≤ m → m < rs.length → cmpB (kAt rs m) key < 0 → cmpB (kAt rs t) key < 0 := fun t m ht hm hk => by
  rcases Nat.eq_or_lt_of_le ht with e | e
  · subst e; exact hk
  · unfold ascP at h
    rw [List.pairwise_iff_getElem] at h
    have := h t m (by omega) hm e
    unfold kAt at *
    rw [getD_at _ _ hm] at hk
    rw [getD_at _ _ (by omega)]
    exact cmpB_trans _ _ _ this hk
/-- A state parted at a place that find tells. -/
theorem part_at {rs : List Pr} (h : ascP rs) (key : ByteArray) (p : Nat) (hp : p ≤ rs.length) (h1 : ∀ t, t < p → cmpB (kAt rs t) key < 0) (h2 : ∀ t, p ≤ t → t < rs.length → 0 ≤ cmpB (kAt rs t) key) (d : Nat) (hd : d = if p < rs.length ∧ cmpB (kAt rs p) key = 0 then 1 else 0) :
    rs = rs.take p ++ (rs.drop p).take d ++ rs.drop (p + d) ∧ (∀ x ∈ rs.take p, cmpB x.1 key < 0) ∧ ((rs.drop p).take d = [] ∨ ∃ v, (rs.drop p).take d = [(key, v)]) ∧ (∀ x ∈ rs.drop (p + d), 0 < cmpB x.1 key) := by
  have hasc := h
  unfold ascP at h
  rw [List.pairwise_iff_getElem] at h
  refine ⟨?_, ?_, ?_, ?_⟩
  · rw [List.append_assoc, ← List.drop_drop, List.take_append_drop, List.take_append_drop]
  · intro x hx
    obtain ⟨i, hi, rfl⟩ := List.getElem_of_mem hx
    rw [List.length_take] at hi
    have := h1 i (by omega)
    unfold kAt at this
    rw [getD_at _ _ (by omega)] at this
    rw [List.getElem_take]
    exact this
  · by_cases hc : p < rs.length ∧ cmpB (kAt rs p) key = 0
    · rw [if_pos hc] at hd
      subst hd
      right
      have e := (cmpB_zero _ _).1 hc.2
      unfold kAt at e
      rw [getD_at _ _ hc.1] at e
      refine ⟨(rs[p]'hc.1).2, ?_⟩
      rw [List.drop_eq_getElem_cons hc.1, List.take_succ_cons, List.take_zero]
      exact congrArg (fun k => [k]) (Prod.ext e rfl)
    · rw [if_neg hc] at hd
      subst hd
      exact .inl (by simp)
  · intro x hx
    obtain ⟨i, hi, rfl⟩ := List.getElem_of_mem hx
    rw [List.length_drop] at hi
    rw [List.getElem_drop]
    have hq := h2 (p + d + i) (by omega) (by omega)
    unfold kAt at hq
    rw [getD_at _ _ (by omega)] at hq
    rcases Int.lt_or_eq_of_le hq with h3 | h3
    · exact h3
    · exfalso
      have e := (cmpB_zero _ _).1 h3.symm
      by_cases hi0 : d + i = 0
      · have hd0 : d = 0 := by omega
        have hi0 : i = 0 := by omega
        subst hi0
        rw [hd0] at hd
        by_cases hc : p < rs.length ∧ cmpB (kAt rs p) key = 0
        · rw [if_pos hc] at hd; cases hd
        · refine hc ⟨by omega, ?_⟩
          unfold kAt
          rw [getD_at _ _ (by omega)]
          subst hd0
          exact h3.symm
      · have h4 := h p (p + d + i) (by omega) (by omega) (by omega)
        rw [e] at h4
        have h5 := h2 p (Nat.le_refl _) (by omega)
        unfold kAt at h5
        rw [getD_at _ _ (by omega)] at h5
        omega
/-- A batch that is applied, whatever its size. -/
def apU (rs : List Pr) (b : List Ch) : List Pr := b.foldl (fun s c => chF c s) rs
theorem apU_snoc (rs : List Pr) (b : List Ch) (c : Ch) : apU rs (b ++ [c]) = chF c (apU rs b) := by unfold apU; rw [List.foldl_append]; rfl
/-- What Apply gives: the pairs and the code. -/
def apC (rs : List Pr) (b : List Ch) : Int := if (stateOk rs && batchOk b) = true then (if (apU rs b).length ≤ 100 then 0 else 2) else 1
def apR (rs : List Pr) (b : List Ch) : List Pr := if apC rs b = 0 then apU rs b else []
theorem chW_len (c : Ch) : ∀ (rs : List Pr) (k : Nat), k = rs.length → (chW c rs).2.length ≤ rs.length + (if (chW c rs).1 = true ∧ c.2.2 = false then 1 else 0) ∧ (c.2.2 = true → (chW c rs).1 = true)
  | rs, 0, hk => by rw [List.eq_nil_of_length_eq_zero hk.symm]; simp [chW]
  | rs, k + 1, hk => by
    obtain ⟨b, bs, rfl⟩ : ∃ b bs, rs = bs ++ [b] := by
      rcases List.eq_nil_or_concat rs with h | ⟨l, a, h⟩
      · subst h; simp at hk
      · exact ⟨a, l, by simpa using h⟩
    have ih := chW_len c bs k (by simp at hk; omega)
    rw [chW_snoc]
    obtain ⟨key, val, g⟩ := c
    generalize chW (key, val, g) bs = st at ih ⊢
    obtain ⟨d, out⟩ := st
    unfold stepC
    rw [List.length_append, List.length_singleton]
    have hk3 := klt_self key
    cases d <;> cases hk2 : klt key b.1 <;> by_cases he : b.1 = key <;> cases g <;> simp [he, hk2, hk3] at ih hk2 ⊢ <;> omega
theorem chF_len (c : Ch) (rs : List Pr) : (chF c rs).length ≤ rs.length + 1 := by
  have := (chW_len c rs _ rfl).1
  unfold chF
  split
  · split at this <;> omega
  · rename_i h
    rw [if_neg (fun e => h e.1)] at this
    rw [List.length_append]
    simp
    omega
theorem apU_len (rs : List Pr) (b : List Ch) : ∀ k, (apU rs (b.take k)).length ≤ rs.length + k
  | 0 => by simp [apU]
  | k + 1 => by
    have ih := apU_len rs b k
    by_cases h : k < b.length
    · rw [List.take_succ_eq_append_getElem h, apU_snoc]
      have := chF_len b[k] (apU rs (b.take k))
      omega
    · rw [List.take_of_length_le (by omega)] at ih ⊢
      omega
end Go.Proofs.YtnmaknnnmjfhkagGreatDoor

namespace Go.Proofs.YtnmaknnnmjfhkagGreatDoor
open Go.RowKit Go.Sort
set_option maxRecDepth 4000
set_option linter.unusedVariables false
set_option linter.unusedSimpArgs false

theorem cmpB_rev {a b : ByteArray} (h : cmpB a b < 0) : 0 < cmpB b a := by
  rcases Int.lt_trichotomy (cmpB b a) 0 with h1 | h1 | h1
  · have := cmpB_trans a b a h h1
    rw [cmpB_self] at this
    omega
  · have := (cmpB_zero _ _).1 h1
    subst this
    rw [cmpB_self] at h
    omega
  · exact h1
theorem cmpB_ne {a b : ByteArray} (h : cmpB a b < 0) : a ≠ b := fun e => by subst e; rw [cmpB_self] at h; omega
theorem cmpB_ne' {a b : ByteArray} (h : 0 < cmpB a b) : a ≠ b := fun e => by subst e; rw [cmpB_self] at h; omega
/-- A state that is one: its pairs. -/
theorem stateOk_iff (rs : List Pr) : stateOk rs = true ↔ rs.length ≤ 100 ∧ (∀ x ∈ rs, kOk x.1 = true ∧ vOk x.2 = true) ∧ ascP rs := by
  constructor
  · intro h
    obtain ⟨h1, h2⟩ := stateOk_of h
    refine ⟨h1, fun x hx => ?_, asc_of h⟩
    obtain ⟨i, hi, rfl⟩ := List.getElem_of_mem hx
    have := h2 i hi
    unfold prOk at this
    rw [getD_at _ _ hi] at this
    simp only [Bool.and_eq_true] at this
    exact this.1
  · rintro ⟨h1, h2, h3⟩
    refine stateOk_yes h1 (fun k hk => ?_)
    unfold prOk
    have hm := h2 _ (List.getElem_mem hk)
    rw [getD_at _ _ hk, hm.1, hm.2]
    by_cases h0 : k = 0
    · simp [h0]
    · have hk1 : k - 1 < rs.length := by omega
      rw [getD_at _ _ hk1]
      unfold ascP at h3
      rw [List.pairwise_iff_getElem] at h3
      have := h3 (k - 1) k hk1 hk (by omega)
      have h4 : klt rs[k - 1].1 rs[k].1 = true := (cmpB_lt _ _).1 this
      simp [h4]
theorem split_at (key : ByteArray) : ∀ (rs : List Pr), ascP rs → ∃ a m r, rs = a ++ m ++ r ∧ (∀ x ∈ a, cmpB x.1 key < 0) ∧ (m = [] ∨ ∃ v, m = [(key, v)]) ∧ (∀ x ∈ r, 0 < cmpB x.1 key)
  | [], _ => ⟨[], [], [], rfl, by simp, .inl rfl, by simp⟩
  | x :: l, h => by
    unfold ascP at h
    rw [List.pairwise_cons] at h
    rcases Int.lt_trichotomy (cmpB x.1 key) 0 with h1 | h1 | h1
    · obtain ⟨a, m, r, e, ha, hm, hr⟩ := split_at key l h.2
      refine ⟨x :: a, m, r, by rw [e]; rfl, fun y hy => ?_, hm, hr⟩
      rcases List.mem_cons.1 hy with rfl | hy
      · exact h1
      · exact ha y hy
    · have e := (cmpB_zero _ _).1 h1
      refine ⟨[], [x], l, rfl, by simp, .inr ⟨x.2, by rw [← e]⟩, fun y hy => ?_⟩
      rw [← e]
      exact cmpB_rev (h.1 y hy)
    · refine ⟨[], [], x :: l, rfl, by simp, .inl rfl, fun y hy => ?_⟩
      rcases List.mem_cons.1 hy with rfl | hy
      · exact h1
      · have h2 : cmpB key x.1 < 0 := (cmpB_lt _ _).2 (cmpB_anti h1)
        exact cmpB_rev (cmpB_trans _ _ _ h2 (h.1 y hy))
theorem chF_split (c : Ch) (rs : List Pr) (h : ascP rs) : ∃ a m r, rs = a ++ m ++ r ∧ (∀ x ∈ a, cmpB x.1 c.1 < 0) ∧ (m = [] ∨ ∃ v, m = [(c.1, v)]) ∧ (∀ x ∈ r, 0 < cmpB x.1 c.1) ∧ chF c rs = chAt c a r := by
  obtain ⟨a, m, r, e, ha, hm, hr⟩ := split_at c.1 rs h
  exact ⟨a, m, r, e, ha, hm, hr, by rw [e]; exact chF_at c a m r ha hm hr⟩
theorem chF_asc (c : Ch) (rs : List Pr) (h : ascP rs) : ascP (chF c rs) := by
  obtain ⟨a, m, r, e, ha, hm, hr, hc⟩ := chF_split c rs h
  rw [hc]
  rw [e] at h
  exact chAt_asc c a m r h ha hr
theorem chF_mem (c : Ch) (rs : List Pr) (h : ascP rs) : ∀ x ∈ chF c rs, x ∈ rs ∨ (x = (c.1, c.2.1) ∧ c.2.2 = false) := by
  obtain ⟨a, m, r, e, ha, hm, hr, hc⟩ := chF_split c rs h
  rw [hc]
  intro x hx
  unfold chAt at hx
  rw [List.mem_append, List.mem_append] at hx
  rcases hx with (hx | hx) | hx
  · exact .inl (by rw [e]; simp [hx])
  · split at hx
    · simp at hx
    · rename_i hg
      simp at hx
      exact .inr ⟨hx, by simpa using hg⟩
  · exact .inl (by rw [e]; simp [hx])
theorem apU_asc (rs : List Pr) (h : ascP rs) : ∀ (b : List Ch), ascP (apU rs b) := by
  intro b
  unfold apU
  induction b generalizing rs with
  | nil => exact h
  | cons c l ih => exact ih _ (chF_asc c rs h)
theorem apU_mem (rs : List Pr) (h : ascP rs) : ∀ (b : List Ch), ∀ x ∈ apU rs b, x ∈ rs ∨ ∃ c ∈ b, x = (c.1, c.2.1) := by
  intro b
  unfold apU
  induction b generalizing rs with
  | nil => exact fun x hx => .inl hx
  | cons c l ih =>
    intro x hx
    rcases ih _ (chF_asc c rs h) x hx with h1 | ⟨c', h1, h2⟩
    · rcases chF_mem c rs h x h1 with h3 | h3
      · exact .inl h3
      · exact .inr ⟨c, List.mem_cons_self, h3.1⟩
    · exact .inr ⟨c', List.mem_cons_of_mem _ h1, h2⟩
theorem chOk_parts {c : Ch} (h : chOk c = true) : kOk c.1 = true ∧ vOk c.2.1 = true := by
  unfold chOk at h
  simp only [Bool.and_eq_true] at h
  exact h.1
theorem apC_zero {rs : List Pr} {b : List Ch} (h : apC rs b = 0) : stateOk rs = true ∧ batchOk b = true ∧ (apU rs b).length ≤ 100 := by
  unfold apC at h
  split at h
  · rename_i h1
    simp only [Bool.and_eq_true] at h1
    split at h
    · rename_i h2; exact ⟨h1.1, h1.2, h2⟩
    · cases h
  · cases h
/-- What Apply gives is a state. -/
theorem apU_ok {rs : List Pr} {b : List Ch} (h : apC rs b = 0) : stateOk (apU rs b) = true := by
  obtain ⟨h1, h2, h3⟩ := apC_zero h
  obtain ⟨_, k2, k3⟩ := (stateOk_iff rs).1 h1
  refine (stateOk_iff _).2 ⟨h3, fun x hx => ?_, apU_asc rs k3 b⟩
  rcases apU_mem rs k3 b x hx with h4 | ⟨c, h4, rfl⟩
  · exact k2 x h4
  · exact chOk_parts ((batchOk_of h2).2 c h4)
end Go.Proofs.YtnmaknnnmjfhkagGreatDoor

namespace Go.Proofs.YtnmaknnnmjfhkagGreatDoor
open Go.RowKit
set_option maxRecDepth 4000
set_option linter.unusedVariables false
set_option linter.unusedSimpArgs false
/-- A box of four cells that may be written. -/
structure B4 (w : World) (B : Nat) (v0 v1 v2 v3 : Value) : Prop where
  lt : B < w.heap.size
  c0 : w.cell? ⟨B, 0, none⟩ = some v0
  c1 : w.cell? ⟨B, 1, none⟩ = some v1
  c2 : w.cell? ⟨B, 2, none⟩ = some v2
  c3 : w.cell? ⟨B, 3, none⟩ = some v3
  f0 : w.frozen? ⟨B, 0, none⟩ = false
  f1 : w.frozen? ⟨B, 1, none⟩ = false
  f2 : w.frozen? ⟨B, 2, none⟩ = false
  f3 : w.frozen? ⟨B, 3, none⟩ = false
section
variable {w w' : World} {B : Nat} {v0 v1 v2 v3 : Value}
theorem B4.past (h : B4 w B v0 v1 v2 v3) {N : Nat} (hN : B < N) (hb : Below N w w') : B4 w' B v0 v1 v2 v3 := by
  have hc : ∀ i, w'.cell? ⟨B, i, none⟩ = w.cell? ⟨B, i, none⟩ := fun i => hb.cell (p := ⟨B, i, none⟩) hN
  have hf : ∀ i, w'.frozen? ⟨B, i, none⟩ = w.frozen? ⟨B, i, none⟩ := fun i => hb.frozen (p := ⟨B, i, none⟩) hN
  exact ⟨Nat.lt_of_lt_of_le h.lt hb.size, (hc _).trans h.c0, (hc _).trans h.c1, (hc _).trans h.c2, (hc _).trans h.c3, (hf _).trans h.f0, (hf _).trans h.f1, (hf _).trans h.f2, (hf _).trans h.f3⟩
theorem B4.below (h : B4 w B v0 v1 v2 v3) (hb : Below w.heap.size w w') : B4 w' B v0 v1 v2 v3 := h.past h.lt hb
theorem B4.drew (h : B4 w B v0 v1 v2 v3) : B4 w.drew B v0 v1 v2 v3 := ⟨h.lt, h.c0, h.c1, h.c2, h.c3, h.f0, h.f1, h.f2, h.f3⟩
theorem B4.alloc (h : B4 w B v0 v1 v2 v3) (o : Obj) : B4 (w.alloc o) B v0 v1 v2 v3 := h.below ((Below.refl _ _).alloc (Nat.le_refl _) _)
theorem B4.new (w : World) (v0 v1 v2 v3 : Value) (t : TypeId) : B4 (w.alloc (.cells #[v0, v1, v2, v3] t)) w.heap.size v0 v1 v2 v3 := by
  refine ⟨by simp, ?_, ?_, ?_, ?_, ?_, ?_, ?_, ?_⟩ <;> first | (simp; done) | (rw [frozen?_alloc_cells]; exact frozen_past _ _ _ (Nat.le_refl _))
end
/-- What a cell holds; nothing where there is none. -/
def cvl (w : World) (p : Addr) : Value := (w.cell? p).getD (.int .i64 0)
theorem cvl_some {w : World} {p : Addr} (h : (w.cell? p).isSome = true) : w.cell? p = some (cvl w p) := by
  unfold cvl
  cases e : w.cell? p with
  | none => rw [e] at h; exact absurd h (by simp)
  | some v => rfl
theorem cvl_is {w : World} {p : Addr} {v : Value} (h : w.cell? p = some v) : (w.cell? p).isSome = true := by rw [h]; rfl
/-- What a region keeps that reads a box and writes the answer's. -/
def KR (W : World) (R B : Nat) (v0 v1 v2 v3 : Value) (w : World) : Prop :=
  w.cell? ⟨B, 0, none⟩ = some v0 ∧ w.cell? ⟨B, 1, none⟩ = some v1 ∧ w.cell? ⟨B, 2, none⟩ = some v2 ∧ w.cell? ⟨B, 3, none⟩ = some v3 ∧ w.cell? ⟨R, 0, none⟩ = some (cvl w ⟨R, 0, none⟩) ∧ w.cell? ⟨R, 1, none⟩ = some (cvl w ⟨R, 1, none⟩) ∧ w.cell? ⟨R, 2, none⟩ = some (cvl w ⟨R, 2, none⟩) ∧ w.cell? ⟨R, 3, none⟩ = some (cvl w ⟨R, 3, none⟩) ∧ w.frozen? ⟨R, 0, none⟩ = false ∧ w.frozen? ⟨R, 1, none⟩ = false ∧ w.frozen? ⟨R, 2, none⟩ = false ∧ w.frozen? ⟨R, 3, none⟩ = false ∧ Below W.heap.size W w ∧ R < w.heap.size ∧ B < w.heap.size ∧ R ≠ B ∧ W.heap.size ≤ R
section
variable {W w w' : World} {R B : Nat} {v0 v1 v2 v3 u0 u1 u2 u3 : Value}
theorem KR.of (hB : B4 w B v0 v1 v2 v3) (hR : B4 w R u0 u1 u2 u3) (hb : Below W.heap.size W w) (hne : R ≠ B) (hW : W.heap.size ≤ R) : KR W R B v0 v1 v2 v3 w :=
  ⟨hB.c0, hB.c1, hB.c2, hB.c3, cvl_some (cvl_is hR.c0), cvl_some (cvl_is hR.c1), cvl_some (cvl_is hR.c2), cvl_some (cvl_is hR.c3), hR.f0, hR.f1, hR.f2, hR.f3, hb, hR.lt, hB.lt, hne, hW⟩
theorem KR.below (h : KR W R B v0 v1 v2 v3 w) (hb : Below w.heap.size w w') : KR W R B v0 v1 v2 v3 w' := by
  obtain ⟨a0, a1, a2, a3, c0, c1, c2, c3, f0, f1, f2, f3, hW, hR, hB, hne, hle⟩ := h
  have cR : ∀ i, w'.cell? ⟨R, i, none⟩ = w.cell? ⟨R, i, none⟩ := fun i => hb.cell (p := ⟨R, i, none⟩) hR
  have cB : ∀ i, w'.cell? ⟨B, i, none⟩ = w.cell? ⟨B, i, none⟩ := fun i => hb.cell (p := ⟨B, i, none⟩) hB
  have fR : ∀ i, w'.frozen? ⟨R, i, none⟩ = w.frozen? ⟨R, i, none⟩ := fun i => hb.frozen (p := ⟨R, i, none⟩) hR
  exact ⟨(cB _).trans a0, (cB _).trans a1, (cB _).trans a2, (cB _).trans a3, cvl_some (by rw [cR]; exact cvl_is c0), cvl_some (by rw [cR]; exact cvl_is c1), cvl_some (by rw [cR]; exact cvl_is c2), cvl_some (by rw [cR]; exact cvl_is c3), (fR _).trans f0, (fR _).trans f1, (fR _).trans f2, (fR _).trans f3, hW.trans (hb.mono (Nat.le_trans hle (Nat.le_of_lt hR))), Nat.lt_of_lt_of_le hR hb.size, Nat.lt_of_lt_of_le hB hb.size, hne, hle⟩
theorem KR.drew (h : KR W R B v0 v1 v2 v3 w) : KR W R B v0 v1 v2 v3 w.drew := h.below ((Below.refl _ _).drew)
theorem KR.set (h : KR W R B v0 v1 v2 v3 w) (j : Nat) (v : Value) : KR W R B v0 v1 v2 v3 (w.setCell ⟨R, j, none⟩ v) := by
  obtain ⟨a0, a1, a2, a3, c0, c1, c2, c3, f0, f1, f2, f3, hW, hR, hB, hne, hle⟩ := h
  have hs : ∀ p, (w.cell? p).isSome = true → ((w.setCell ⟨R, j, none⟩ v).cell? p).isSome = true := fun p hp => by
    by_cases e : (⟨R, j, none⟩ : Addr) = p
    · subst e
      obtain ⟨u, hu⟩ := Option.isSome_iff_exists.1 hp
      rw [World.cell?_setCell_same (w := w) (h := hu)]; rfl
    · rw [World.cell?_setCell_other (w := w) (h := e)]; exact hp
  have cB : ∀ i, (w.setCell ⟨R, j, none⟩ v).cell? ⟨B, i, none⟩ = w.cell? ⟨B, i, none⟩ := fun i => World.cell?_setCell_far _ _ _ _ hne
  exact ⟨(cB _).trans a0, (cB _).trans a1, (cB _).trans a2, (cB _).trans a3, cvl_some (hs _ (cvl_is c0)), cvl_some (hs _ (cvl_is c1)), cvl_some (hs _ (cvl_is c2)), cvl_some (hs _ (cvl_is c3)), by rw [World.frozen?_setCell]; exact f0, by rw [World.frozen?_setCell]; exact f1, by rw [World.frozen?_setCell]; exact f2, by rw [World.frozen?_setCell]; exact f3, hW.setCell hle _, by rw [World.size_setCell]; exact hR, by rw [World.size_setCell]; exact hB, hne, hle⟩
end
end Go.Proofs.YtnmaknnnmjfhkagGreatDoor

namespace Go.Proofs.YtnmaknnnmjfhkagGreatDoor
open Go.RowKit
set_option linter.unusedVariables false
set_option linter.unusedSimpArgs false

/-- The writes that are pending get into their sectors, in order. -/
def syncs : List (Int × ByteArray) → List ByteArray → List ByteArray
  | [], ss => ss
  | x :: r, ss => syncs r (ss.set x.1.toNat x.2)
theorem syncs_length : ∀ (ws : List (Int × ByteArray)) (ss : List ByteArray), (syncs ws ss).length = ss.length
  | [], _ => rfl
  | x :: r, ss => by rw [syncs, syncs_length r]; simp

/-- While the pending writes are made safe: the answer's block, the disk's variable, its sectors, what is pending. -/
structure SYs (W w : World) (R X g g' n n' c1 c1' : Nat) (ws : List (Int × ByteArray)) (ts : List ByteArray) : Prop where
  gr : W.grownBy w (some g)
  rr : Row w R [.slice none 0 0, .slice none 0 0]
  rx : Row w X [.slice (some ⟨g, 0, none⟩) n c1, .slice (some ⟨g', 0, none⟩) n' c1']
  rs : Row w g (ts.map Value.string)
  own : OwnS w (some ⟨g', 0, none⟩) (wcells ws)
section
variable {W w w' : World} {R X g g' n n' c1 c1' : Nat} {ws : List (Int × ByteArray)} {ts : List ByteArray}
theorem SYs.below (h : SYs W w R X g g' n n' c1 c1' ws ts) (hb : Below w.heap.size w w') : SYs W w' R X g g' n n' c1 c1' ws ts :=
  ⟨grown_trans h.gr (grown_of_below _ hb), h.rr.below hb, h.rx.below hb, h.rs.below hb, h.own.below hb⟩
theorem SYs.drew (h : SYs W w R X g g' n n' c1 c1' ws ts) : SYs W w.drew R X g g' n n' c1 c1' ws ts := h.below ((Below.refl _ _).drew)
theorem SYs.set (h : SYs W w R X g g' n n' c1 c1' ws ts) (m : Nat) (hm : m < ts.length) (s : ByteArray) (h2 : R ≠ g) (h3 : X ≠ g) (h4 : wcells ws ≠ [] → g' ≠ g) : SYs W (w.setCell ⟨g, m, none⟩ (.string s)) R X g g' n n' c1 c1' ws (ts.set m s) := by
  refine ⟨grown_set h.gr _ _, h.rr.other _ (fun e => h2 e.symm) _, h.rx.other _ (fun e => h3 e.symm) _, ?_, ?_⟩
  · rw [List.map_set]; exact h.rs.set m (by simpa using hm) _
  · rcases h.own with ho | ⟨b, e, hr⟩
    · exact .inl ho
    · injection e with e; injection e with e
      by_cases hc : wcells ws = []
      · exact .inl hc
      · exact .inr ⟨g', rfl, (e ▸ hr).other _ (fun e2 => h4 hc e2.symm) _⟩
end

theorem grown_setnew {a b : World} {r : Option Nat} (h : a.grownBy b r) (p : Addr) (hp : a.heap.size ≤ p.block) (v : Value) : a.grownBy (b.setCell p v) r :=
  ⟨h.os, h.tape, h.output, by rw [World.size_setCell]; exact h.size, fun i hi hr => (Below.heap_setCell _ _ _ _ (fun e => by omega)).trans (h.block i hi hr)⟩

set_option maxRecDepth 100000 in
set_option maxHeartbeats 16000000 in
theorem sync_s (g g' : Nat) (ss : List ByteArray) (c : Nat) (ws : List (Int × ByteArray)) (c' : Nat) (w : World) (hrs : Row w g (ss.map Value.string)) (hp : OwnS w (some ⟨g', 0, none⟩) (wcells ws)) (hne : wcells ws ≠ [] → g' ≠ g) (hl : ss.length ≤ 200) (hl' : ws.length ≤ 300) (hok : ∀ x ∈ ws, 0 ≤ x.1 ∧ x.1 < (ss.length : Int)) :
    Calls Tryz.prog 137 #[diskV (some ⟨g, 0, none⟩) ss.length c (some ⟨g', 0, none⟩) ws.length c'] w fun e w' => ∃ x, e = .returned (diskV (some ⟨g, 0, none⟩) ss.length c (some ⟨x, 0, none⟩) 0 0) ∧ w.heap.size ≤ x ∧ x < w'.heap.size ∧ Row w' g ((syncs ws ss).map Value.string) ∧ w.grownBy w' (some g) := by
  obtain ⟨RES, HRES⟩ : ∃ RES, Hid (RES = syncs ws ss) := ⟨_, hid rfl⟩
  rw [← HRES.out]
  have hgl := hrs.lt
  go_enter Tryz.func137, Tryz.ntmps137
  go_wp2
  have hst : SYs w ((w.alloc (.cells #[.slice (some ⟨g, 0, none⟩) ss.length c, .slice (some ⟨g', 0, none⟩) ws.length c'] 40)).alloc (.cells #[.slice none 0 0, .slice none 0 0] 40)) (w.heap.size + 1) w.heap.size g g' ss.length ws.length c c' ws ss :=
    ⟨grown_of_below _ (((Below.refl _ _).alloc (Nat.le_refl _) _).alloc (by simp) _), row_new' _ _ _ _ (by simp), (row_new _ _ _).alloc _, (hrs.alloc _).alloc _, (hp.below (below_new _ _)).below (below_new _ _)⟩
  have HST := hid hst
  have HOK := hid hok
  have HNE := hid hne
  clear hst hrs hp hok hne
  go_loopw [3] (fun i wr => ∃ (k : Nat) (ts : List ByteArray), k ≤ ws.length ∧ i = .int .i64 k ∧ ts.length = ss.length ∧ Hid (syncs (ws.drop k) ts = RES) ∧ SYs w wr (w.heap.size + 1) w.heap.size g g' ss.length ws.length c c' ws ts) (fun i _ => ws.length - (intOf i).toNat)
  case atStart => exact ⟨0, ss, Nat.zero_le _, rfl, rfl, by show _ = _; rw [List.drop_zero, HRES.out], HST.out⟩
  case round =>
    clear HST
    obtain ⟨k, ts, hk, rfl, htl, HK, hst⟩ := hrel
    by_cases hlt : k < ws.length
    · obtain ⟨b, o, m0, d, he, hc0, hc1, HX⟩ := hst.own.wrs.at hlt
      obtain ⟨rfl, rfl⟩ : g' = b ∧ o = 0 := by cases he; exact ⟨rfl, rfl⟩
      rw [Nat.zero_add] at hc0 hc1
      clear he
      have hyw := HOK.out (m0, d) (by rw [HX.out]; simp [List.getD, hlt])
      obtain ⟨m, rfl, hm⟩ : ∃ m : Nat, m0 = (m : Int) ∧ m < ss.length := ⟨m0.toNat, by have := hyw.1; simp at *; omega, by have := hyw.1; have := hyw.2; simp at *; omega⟩
      have hwne : wcells ws ≠ [] := fun e => by have := congrArg List.length e; rw [wcells_length, List.length_nil] at this; omega
      have hgg := HNE.out hwne
      have hcg := cval_some (cval_is (hst.rs.cell m (.string (ts.getD m ByteArray.empty)) (by simp [List.getD, htl, hm])))
      have hfo := hst.rs.froz m (by simp [htl, hm])
      have hlX := hst.rx.lt
      have x0 := hst.rx.cell 0 _ rfl
      have x1 := hst.rx.cell 1 _ rfl
      have HS0 := hid (And.intro x0 (And.intro x1 (And.intro hc0 (And.intro hc1 (And.intro hcg hfo)))))
      have HSR := hid hst
      have hk0 : (0 : Int) ≤ (k : Int) := by omega
      have hk1 : (k : Int) < (ws.length : Int) := by omega
      have hm0 : (0 : Int) ≤ (m : Int) := by omega
      have hm1 : (m : Int) < (ss.length : Int) := by omega
      clear hst hyw hcg hfo hc0 hc1 hwne
      go_wp2_with fail
      clear x0 x1
      go_region_held3 (fun w' => w'.cell? ⟨w.heap.size, 0, none⟩ = some (.slice (some ⟨g, 0, none⟩) ss.length c) ∧ w'.cell? ⟨w.heap.size, 1, none⟩ = some (.slice (some ⟨g', 0, none⟩) ws.length c') ∧ w'.cell? ⟨g', k * 2, none⟩ = some (.int .i64 (m : Int)) ∧ w'.cell? ⟨g', k * 2 + 1, none⟩ = some (.string d) ∧ w'.cell? ⟨g, m, none⟩ = some (cval w' ⟨g, m, none⟩) ∧ w'.frozen? ⟨g, m, none⟩ = false)
        (first | assumption | exact HS0.out | exact ⟨(World.cell?_setCell_far _ _ _ _ (by show g ≠ w.heap.size; omega)).trans HS0.out.1, (World.cell?_setCell_far _ _ _ _ (by show g ≠ w.heap.size; omega)).trans HS0.out.2.1, (World.cell?_setCell_far _ _ _ _ (by show g ≠ g'; omega)).trans HS0.out.2.2.1, (World.cell?_setCell_far _ _ _ _ (by show g ≠ g'; omega)).trans HS0.out.2.2.2.1, cval_some (cval_is (World.cell?_setCell_same' wr _ (.string d) (cval_is HS0.out.2.2.2.2.1))), (World.frozen?_setCell wr _ _ _).trans HS0.out.2.2.2.2.2⟩)
        (fail)
      have HST' := hid (HSR.out.drew.set m (by omega) d (by omega) (by omega) HNE.out)
      have HK' : Hid (syncs (ws.drop (k + 1)) (ts.set m d) = RES) := by
        show _ = _
        rw [← HK.out, drop_at ws k (0, ByteArray.empty) hlt, ← HX.out, syncs, Int.toNat_natCast]
      rename_i hHeld
      clear hHeld HS0
      go_wp2
      go_roundw
      case rel => exact ⟨k + 1, _, by omega, by go_num, by simp [htl], HK', HST'.out⟩
      case measure => simp [intOf]; omega
    · have hres : Hid (ts = RES) := by
        have := HK.out
        rw [List.drop_of_length_le (by omega)] at this
        exact this
      rw [hres.out] at hst
      have HSR := hid hst
      have q0 := hst.rx.cell 0 _ rfl
      have q1 := hst.rx.cell 1 _ rfl
      have f1 := hst.rx.froz 1 (by simp)
      have r0 := hst.rr.cell 0 _ rfl
      have r1 := hst.rr.cell 1 _ rfl
      have fr0 := hst.rr.froz 0 (by simp)
      have fr1 := hst.rr.froz 1 (by simp)
      have hlX := hst.rx.lt
      have hlR := hst.rr.lt
      have n1 : w.heap.size ≠ w.heap.size + 1 := by omega
      clear hst
      go_wp2
      have ne0 : wr.heap.size ≠ w.heap.size + 1 := by omega
      refine bodyPost_ret (v := diskV (some ⟨g, 0, none⟩) ss.length c (some ⟨wr.heap.size, 0, none⟩) 0 0) (by simp [results, Tryz.results137, go_sem, r0, r1, n1, ne0, hlR]) rfl ⟨_, rfl, by omega, by simp, ?_, ?_⟩
      · exact (((HSR.out.rs.other _ (by show w.heap.size ≠ g; omega) _).other _ (by show w.heap.size + 1 ≠ g; omega) _).other _ (by show w.heap.size + 1 ≠ g; omega) _).alloc _
      · exact grown_trans (grown_setnew (grown_setnew (grown_setnew HSR.out.gr ⟨w.heap.size, 1, none⟩ (by show w.heap.size ≤ w.heap.size; omega) _) ⟨w.heap.size + 1, 0, none⟩ (by show w.heap.size ≤ w.heap.size + 1; omega) _) ⟨w.heap.size + 1, 1, none⟩ (by show w.heap.size ≤ w.heap.size + 1; omega) _) (grown_of_below _ (below_new _ _))
end Go.Proofs.YtnmaknnnmjfhkagGreatDoor

namespace Go.Proofs.YtnmaknnnmjfhkagGreatDoor
open Go.RowKit
set_option maxRecDepth 4000
set_option linter.unusedVariables false
set_option linter.unusedSimpArgs false

def pcV (r : ByteArray) : Value := match pc r with | none => .tuple #[.string ⟨#[]⟩, .string ⟨#[]⟩, .bool false] | some (k, m) => .tuple #[.string k, .string m, .bool true]
theorem get0 (r : ByteArray) (h : 0 < r.size) : (r[0]'h).toNat = b0 r := by
  unfold b0
  have hl : 0 < r.data.toList.length := h
  rw [List.getD_eq_getElem?_getD, List.getElem?_eq_getElem hl]
  rfl
theorem piece_s (r : ByteArray) (w : World) (hs : r.size ≤ 1048576) : Calls Tryz.prog 215 #[.string r] w fun e w' => e = .returned (pcV r) ∧ Below w.heap.size w w' := by
  by_cases h0 : 0 < r.size
  · have hg := get0 r h0
    obtain ⟨b, hb⟩ : ∃ b, b = b0 r := ⟨_, rfl⟩
    obtain ⟨e, he⟩ : ∃ e, e = 1 + b := ⟨_, rfl⟩
    have hbl : b ≤ 255 := by rw [hb]; exact b0_lt r
    rw [← hb] at hg
    have h1 : (1 : Int) ≤ (r.size : Int) := by omega
    have hze : r.toList.isEmpty = false := by rw [isEmpty_size]; exact decide_eq_false (by omega)
    have hE : (1 : Int) + (b : Int) = (e : Int) := by omega
    have hE0 : (0 : Int) ≤ (e : Int) := by omega
    have hE1 : (1 : Int) ≤ (e : Int) := by omega
    have hEw : IntKind.i64.wrap (e : Int) = (e : Int) := by simp [IntKind.wrap, IntKind.bits, IntKind.signed]; omega
    by_cases h2 : 1 + b ≤ r.size
    · have HV : Hid (pcV r = .tuple #[.string (r.extract 1 e), .string (r.extract e r.size), .bool true]) := by
        show _ = _
        unfold pcV pc
        rw [← hb, if_pos ⟨by omega, h2⟩, ← he]
      have h2' : (e : Int) ≤ (r.size : Int) := by omega
      clear hb h2 he
      go_enter Tryz.func215, Tryz.ntmps215
      go_wp2
      go_quiet (fail)
      go_wp2
      go_ret3
      exact ⟨by rw [HV.out]; rfl, below_drewN (Below.refl _ _) _⟩
    · have HV : Hid (pcV r = .tuple #[.string ⟨#[]⟩, .string ⟨#[]⟩, .bool false]) := by
        show _ = _
        unfold pcV pc
        rw [← hb, if_neg (by omega)]
      have h2' : (r.size : Int) < (e : Int) := by omega
      clear hb h2 he
      go_enter Tryz.func215, Tryz.ntmps215
      go_wp2
      go_ret3
      exact ⟨by rw [HV.out]; rfl, Below.refl _ _⟩
  · have HV : Hid (pcV r = .tuple #[.string ⟨#[]⟩, .string ⟨#[]⟩, .bool false]) := by
      show _ = _
      unfold pcV pc
      rw [if_neg (by omega)]
    have hz : (r.size : Int) < 1 := by omega
    have hze : r.toList.isEmpty = true := by rw [isEmpty_size]; exact decide_eq_true (by omega)
    go_enter Tryz.func215, Tryz.ntmps215
    go_wp2
    go_ret3
    exact ⟨by rw [HV.out]; rfl, Below.refl _ _⟩
theorem sized_take_i (r : ByteArray) (w : World) (hs : r.size ≤ 1048576) : Calls Tryz.prog 261 #[.string r] w fun e w' => e = .returned (pcV r) ∧ Below w.heap.size w w' := by
  by_cases h0 : 0 < r.size
  · have hg := get0 r h0
    obtain ⟨b, hb⟩ : ∃ b, b = b0 r := ⟨_, rfl⟩
    obtain ⟨e, he⟩ : ∃ e, e = 1 + b := ⟨_, rfl⟩
    have hbl : b ≤ 255 := by rw [hb]; exact b0_lt r
    rw [← hb] at hg
    have h1 : (1 : Int) ≤ (r.size : Int) := by omega
    have hze : r.toList.isEmpty = false := by rw [isEmpty_size]; exact decide_eq_false (by omega)
    have hE : (1 : Int) + (b : Int) = (e : Int) := by omega
    have hE0 : (0 : Int) ≤ (e : Int) := by omega
    have hE1 : (1 : Int) ≤ (e : Int) := by omega
    have hEw : IntKind.i64.wrap (e : Int) = (e : Int) := by simp [IntKind.wrap, IntKind.bits, IntKind.signed]; omega
    by_cases h2 : 1 + b ≤ r.size
    · have HV : Hid (pcV r = .tuple #[.string (r.extract 1 e), .string (r.extract e r.size), .bool true]) := by
        show _ = _
        unfold pcV pc
        rw [← hb, if_pos ⟨by omega, h2⟩, ← he]
      have h2' : (e : Int) ≤ (r.size : Int) := by omega
      clear hb h2 he
      go_enter Tryz.func261, Tryz.ntmps261
      go_wp2
      go_quiet (fail)
      go_wp2
      go_ret3
      exact ⟨by rw [HV.out]; rfl, below_drewN (Below.refl _ _) _⟩
    · have HV : Hid (pcV r = .tuple #[.string ⟨#[]⟩, .string ⟨#[]⟩, .bool false]) := by
        show _ = _
        unfold pcV pc
        rw [← hb, if_neg (by omega)]
      have h2' : (r.size : Int) < (e : Int) := by omega
      clear hb h2 he
      go_enter Tryz.func261, Tryz.ntmps261
      go_wp2
      go_ret3
      exact ⟨by rw [HV.out]; rfl, Below.refl _ _⟩
  · have HV : Hid (pcV r = .tuple #[.string ⟨#[]⟩, .string ⟨#[]⟩, .bool false]) := by
      show _ = _
      unfold pcV pc
      rw [if_neg (by omega)]
    have hz : (r.size : Int) < 1 := by omega
    have hze : r.toList.isEmpty = true := by rw [isEmpty_size]; exact decide_eq_true (by omega)
    go_enter Tryz.func261, Tryz.ntmps261
    go_wp2
    go_ret3
    exact ⟨by rw [HV.out]; rfl, Below.refl _ _⟩

theorem bs0 {w w' : World} {o : Obj} (h : Below (w.alloc o).heap.size (w.alloc o) w') : Below w.heap.size w w' := ((Below.refl _ _).alloc (Nat.le_refl _) _).trans (h.mono (by simp))
/-- What a change that is taken off the front of a text reads as. -/
def stpV (r : ByteArray) : Option (Ch × ByteArray) := if 1 < b0 r then none else stp r
def chgPost (o : Option (Ch × ByteArray)) (e : Ending) : Prop := match o with
  | none => ∃ k v g b, e = .returned (.tuple #[.agg #[.string k, .string v, .bool g], .string b, .bool false])
  | some (c, r') => e = .returned (.tuple #[.agg #[.string c.1, .string c.2.1, .bool c.2.2], .string r', .bool true])
theorem pcV_none {r : ByteArray} (h : pc r = none) : pcV r = .tuple #[.string ⟨#[]⟩, .string ⟨#[]⟩, .bool false] := by unfold pcV; rw [h]
theorem pcV_some {r k m : ByteArray} (h : pc r = some (k, m)) : pcV r = .tuple #[.string k, .string m, .bool true] := by unfold pcV; rw [h]
end Go.Proofs.YtnmaknnnmjfhkagGreatDoor

namespace Go.Proofs.YtnmaknnnmjfhkagGreatDoor
open Go.RowKit
set_option maxRecDepth 4000
set_option linter.unusedVariables false
set_option linter.unusedSimpArgs false

set_option maxHeartbeats 16000000 in
theorem change_g (r : ByteArray) (w : World) (hs : r.size ≤ 1048576) (h0 : 0 < r.size) (hb : b0 r = 1) (k m : ByteArray) (hp : pc (r.extract 1 r.size) = some (k, m)) : Calls Tryz.prog 222 #[.string r] w fun e w' => e = .returned (.tuple #[.agg #[.string k, .string ⟨#[]⟩, .bool true], .string m, .bool true]) ∧ Below w.heap.size w w' := by
  have hg := get0 r h0
  rw [hb] at hg
  have HP := hid (pcV_some hp)
  have hsz : (r.extract 1 r.size).size ≤ 1048576 := by simp only [ByteArray.size_extract]; omega
  clear hp hb
  go_enter Tryz.func222, Tryz.ntmps222
  go_wp2_with (go_at_call 261; refine (sized_take_i _ _ hsz).mono ?_; rw [HP.out]; rintro e w2 ⟨rfl, hb2⟩; have hsw2 := hb2.size; simp only [World.size_alloc, World.size_setCell] at hsw2; have c0 : w2.cell? ⟨w.heap.size, 0, none⟩ = some (.string ⟨#[]⟩) := (hb2.cell (p := ⟨w.heap.size, 0, none⟩) (by simp <;> omega)).trans (by go_simp); have cf0 : w2.frozen? ⟨w.heap.size, 0, none⟩ = false := (hb2.frozen (p := ⟨w.heap.size, 0, none⟩) (by simp <;> omega)).trans (by go_simp); have c1 : w2.cell? ⟨w.heap.size, 1, none⟩ = some (.string ⟨#[]⟩) := (hb2.cell (p := ⟨w.heap.size, 1, none⟩) (by simp <;> omega)).trans (by go_simp); have cf1 : w2.frozen? ⟨w.heap.size, 1, none⟩ = false := (hb2.frozen (p := ⟨w.heap.size, 1, none⟩) (by simp <;> omega)).trans (by go_simp); have c2 : w2.cell? ⟨w.heap.size, 2, none⟩ = some (.bool true) := (hb2.cell (p := ⟨w.heap.size, 2, none⟩) (by simp <;> omega)).trans (by go_simp); have cf2 : w2.frozen? ⟨w.heap.size, 2, none⟩ = false := (hb2.frozen (p := ⟨w.heap.size, 2, none⟩) (by simp <;> omega)).trans (by go_simp); have HB2 := hid (bs0 hb2); clear hb2)
  refine bodyPost_ret (v := .tuple #[.agg #[.string k, .string ⟨#[]⟩, .bool true], .string m, .bool true]) (by simp [results, Tryz.results222, go_sem, c0, c1, c2]) rfl ⟨rfl, ?_⟩
  (first | exact (((HB2.out.setCell (Nat.le_refl _) _).setCell (Nat.le_refl _) _).setCell (Nat.le_refl _) _) | exact ((((HB2.out.setCell (Nat.le_refl _) _).setCell (Nat.le_refl _) _).setCell (Nat.le_refl _) _).setCell (Nat.le_refl _) _) | exact (((((HB2.out.setCell (Nat.le_refl _) _).setCell (Nat.le_refl _) _).setCell (Nat.le_refl _) _).setCell (Nat.le_refl _) _).setCell (Nat.le_refl _) _) | exact ((((((HB2.out.setCell (Nat.le_refl _) _).setCell (Nat.le_refl _) _).setCell (Nat.le_refl _) _).setCell (Nat.le_refl _) _).setCell (Nat.le_refl _) _).setCell (Nat.le_refl _) _) | exact (((((((HB2.out.setCell (Nat.le_refl _) _).setCell (Nat.le_refl _) _).setCell (Nat.le_refl _) _).setCell (Nat.le_refl _) _).setCell (Nat.le_refl _) _).setCell (Nat.le_refl _) _).setCell (Nat.le_refl _) _))
set_option maxHeartbeats 16000000 in
theorem change_bad (r : ByteArray) (w : World) (hs : r.size ≤ 1048576) (h0 : 0 < r.size) (hb : 1 < b0 r) : Calls Tryz.prog 222 #[.string r] w fun e w' => (∃ k v g b, e = .returned (.tuple #[.agg #[.string k, .string v, .bool g], .string b, .bool false])) ∧ Below w.heap.size w w' := by
  have hg := get0 r h0
  obtain ⟨b, hbb⟩ : ∃ b, b = b0 r := ⟨_, rfl⟩
  rw [← hbb] at hg hb
  have hb0 : ((b : Int) != 0) = true := by simp; omega
  have hb1 : ((b : Int) != 1) = true := by simp; omega
  clear hbb
  go_enter Tryz.func222, Tryz.ntmps222
  go_wp2
  refine bodyPost_ret (v := .tuple #[.agg #[.string ⟨#[]⟩, .string ⟨#[]⟩, .bool false], .string ⟨#[]⟩, .bool false]) (by simp [results, Tryz.results222, go_sem]) rfl ⟨⟨_, _, _, _, rfl⟩, ?_⟩
  exact (Below.refl _ _).alloc (Nat.le_refl _) _
end Go.Proofs.YtnmaknnnmjfhkagGreatDoor

namespace Go.Proofs.YtnmaknnnmjfhkagGreatDoor
open Go.RowKit
set_option maxRecDepth 4000
set_option linter.unusedVariables false
set_option linter.unusedSimpArgs false

set_option maxHeartbeats 16000000 in
theorem change_gn (r : ByteArray) (w : World) (hs : r.size ≤ 1048576) (h0 : 0 < r.size) (hb : b0 r = 1) (hp : pc (r.extract 1 r.size) = none) : Calls Tryz.prog 222 #[.string r] w fun e w' => (∃ k v g b, e = .returned (.tuple #[.agg #[.string k, .string v, .bool g], .string b, .bool false])) ∧ Below w.heap.size w w' := by
  have hg := get0 r h0
  rw [hb] at hg
  have HP := hid (pcV_none hp)
  have hsz : (r.extract 1 r.size).size ≤ 1048576 := by simp only [ByteArray.size_extract]; omega
  clear hp hb
  go_enter Tryz.func222, Tryz.ntmps222
  go_wp2_with (go_at_call 261; refine (sized_take_i _ _ hsz).mono ?_; rw [HP.out]; rintro e w2 ⟨rfl, hb2⟩; have hsw2 := hb2.size; simp only [World.size_alloc, World.size_setCell] at hsw2; have c0 : w2.cell? ⟨w.heap.size, 0, none⟩ = some (.string ⟨#[]⟩) := (hb2.cell (p := ⟨w.heap.size, 0, none⟩) (by simp <;> omega)).trans (by go_simp); have cf0 : w2.frozen? ⟨w.heap.size, 0, none⟩ = false := (hb2.frozen (p := ⟨w.heap.size, 0, none⟩) (by simp <;> omega)).trans (by go_simp); have c1 : w2.cell? ⟨w.heap.size, 1, none⟩ = some (.string ⟨#[]⟩) := (hb2.cell (p := ⟨w.heap.size, 1, none⟩) (by simp <;> omega)).trans (by go_simp); have cf1 : w2.frozen? ⟨w.heap.size, 1, none⟩ = false := (hb2.frozen (p := ⟨w.heap.size, 1, none⟩) (by simp <;> omega)).trans (by go_simp); have c2 : w2.cell? ⟨w.heap.size, 2, none⟩ = some (.bool true) := (hb2.cell (p := ⟨w.heap.size, 2, none⟩) (by simp <;> omega)).trans (by go_simp); have cf2 : w2.frozen? ⟨w.heap.size, 2, none⟩ = false := (hb2.frozen (p := ⟨w.heap.size, 2, none⟩) (by simp <;> omega)).trans (by go_simp); have HB2 := hid (bs0 hb2); clear hb2)
  refine bodyPost_ret (v := .tuple #[.agg #[.string ⟨#[]⟩, .string ⟨#[]⟩, .bool true], .string ⟨#[]⟩, .bool false]) (by simp [results, Tryz.results222, go_sem, c0, c1, c2]) rfl ⟨⟨_, _, _, _, rfl⟩, ?_⟩
  (first | exact (((HB2.out.setCell (Nat.le_refl _) _).setCell (Nat.le_refl _) _).setCell (Nat.le_refl _) _) | exact ((((HB2.out.setCell (Nat.le_refl _) _).setCell (Nat.le_refl _) _).setCell (Nat.le_refl _) _).setCell (Nat.le_refl _) _) | exact (((((HB2.out.setCell (Nat.le_refl _) _).setCell (Nat.le_refl _) _).setCell (Nat.le_refl _) _).setCell (Nat.le_refl _) _).setCell (Nat.le_refl _) _) | exact ((((((HB2.out.setCell (Nat.le_refl _) _).setCell (Nat.le_refl _) _).setCell (Nat.le_refl _) _).setCell (Nat.le_refl _) _).setCell (Nat.le_refl _) _).setCell (Nat.le_refl _) _) | exact (((((((HB2.out.setCell (Nat.le_refl _) _).setCell (Nat.le_refl _) _).setCell (Nat.le_refl _) _).setCell (Nat.le_refl _) _).setCell (Nat.le_refl _) _).setCell (Nat.le_refl _) _).setCell (Nat.le_refl _) _))
end Go.Proofs.YtnmaknnnmjfhkagGreatDoor

namespace Go.Proofs.YtnmaknnnmjfhkagGreatDoor
open Go.RowKit
set_option maxRecDepth 4000
set_option linter.unusedVariables false
set_option linter.unusedSimpArgs false

set_option maxHeartbeats 16000000 in
theorem change_sn (r : ByteArray) (w : World) (hs : r.size ≤ 1048576) (h0 : 0 < r.size) (hb : b0 r = 0) (hp : pc (r.extract 1 r.size) = none) : Calls Tryz.prog 222 #[.string r] w fun e w' => (∃ k v g b, e = .returned (.tuple #[.agg #[.string k, .string v, .bool g], .string b, .bool false])) ∧ Below w.heap.size w w' := by
  have hg := get0 r h0
  rw [hb] at hg
  have HP := hid (pcV_none hp)
  have hsz : (r.extract 1 r.size).size ≤ 1048576 := by simp only [ByteArray.size_extract]; omega
  clear hp hb
  go_enter Tryz.func222, Tryz.ntmps222
  go_wp2_with (go_at_call 261; refine (sized_take_i _ _ hsz).mono ?_; rw [HP.out]; rintro e w2 ⟨rfl, hb2⟩; have hsw2 := hb2.size; simp only [World.size_alloc, World.size_setCell] at hsw2; have c0 : w2.cell? ⟨w.heap.size, 0, none⟩ = some (.string ⟨#[]⟩) := (hb2.cell (p := ⟨w.heap.size, 0, none⟩) (by simp <;> omega)).trans (by go_simp); have cf0 : w2.frozen? ⟨w.heap.size, 0, none⟩ = false := (hb2.frozen (p := ⟨w.heap.size, 0, none⟩) (by simp <;> omega)).trans (by go_simp); have c1 : w2.cell? ⟨w.heap.size, 1, none⟩ = some (.string ⟨#[]⟩) := (hb2.cell (p := ⟨w.heap.size, 1, none⟩) (by simp <;> omega)).trans (by go_simp); have cf1 : w2.frozen? ⟨w.heap.size, 1, none⟩ = false := (hb2.frozen (p := ⟨w.heap.size, 1, none⟩) (by simp <;> omega)).trans (by go_simp); have c2 : w2.cell? ⟨w.heap.size, 2, none⟩ = some (.bool false) := (hb2.cell (p := ⟨w.heap.size, 2, none⟩) (by simp <;> omega)).trans (by go_simp); have cf2 : w2.frozen? ⟨w.heap.size, 2, none⟩ = false := (hb2.frozen (p := ⟨w.heap.size, 2, none⟩) (by simp <;> omega)).trans (by go_simp); have HB2 := hid (bs0 hb2); clear hb2)
  refine bodyPost_ret (v := .tuple #[.agg #[.string ⟨#[]⟩, .string ⟨#[]⟩, .bool false], .string ⟨#[]⟩, .bool false]) (by simp [results, Tryz.results222, go_sem, c0, c1, c2]) rfl ⟨⟨_, _, _, _, rfl⟩, ?_⟩
  (first | exact (((HB2.out.setCell (Nat.le_refl _) _).setCell (Nat.le_refl _) _).setCell (Nat.le_refl _) _) | exact ((((HB2.out.setCell (Nat.le_refl _) _).setCell (Nat.le_refl _) _).setCell (Nat.le_refl _) _).setCell (Nat.le_refl _) _) | exact (((((HB2.out.setCell (Nat.le_refl _) _).setCell (Nat.le_refl _) _).setCell (Nat.le_refl _) _).setCell (Nat.le_refl _) _).setCell (Nat.le_refl _) _) | exact ((((((HB2.out.setCell (Nat.le_refl _) _).setCell (Nat.le_refl _) _).setCell (Nat.le_refl _) _).setCell (Nat.le_refl _) _).setCell (Nat.le_refl _) _).setCell (Nat.le_refl _) _) | exact (((((((HB2.out.setCell (Nat.le_refl _) _).setCell (Nat.le_refl _) _).setCell (Nat.le_refl _) _).setCell (Nat.le_refl _) _).setCell (Nat.le_refl _) _).setCell (Nat.le_refl _) _).setCell (Nat.le_refl _) _))
end Go.Proofs.YtnmaknnnmjfhkagGreatDoor

namespace Go.Proofs.YtnmaknnnmjfhkagGreatDoor
open Go.RowKit
set_option maxRecDepth 4000
set_option linter.unusedVariables false
set_option linter.unusedSimpArgs false

set_option maxHeartbeats 16000000 in
theorem change_ssn (r : ByteArray) (w : World) (hs : r.size ≤ 1048576) (h0 : 0 < r.size) (hb : b0 r = 0) (k m : ByteArray) (hp : pc (r.extract 1 r.size) = some (k, m)) (hmz : m.size ≤ 1048576) (hq : pc m = none) : Calls Tryz.prog 222 #[.string r] w fun e w' => (∃ k v g b, e = .returned (.tuple #[.agg #[.string k, .string v, .bool g], .string b, .bool false])) ∧ Below w.heap.size w w' := by
  have hg := get0 r h0
  rw [hb] at hg
  have HP := hid (pcV_some hp)
  have HQ := hid (pcV_none hq)
  have hsz : (r.extract 1 r.size).size ≤ 1048576 := by simp only [ByteArray.size_extract]; omega
  have hszm : m.size ≤ 1048576 := hmz
  clear hp hb hq
  go_enter Tryz.func222, Tryz.ntmps222
  go_wp2_with (first | (have _g := HB2; go_at_call 261; refine (sized_take_i _ _ hszm).mono ?_; rw [HQ.out]; rintro e w3 ⟨rfl, hb3⟩; have hsw3 := hb3.size; simp only [World.size_alloc, World.size_setCell] at hsw3; have d0 : w3.cell? ⟨w.heap.size, 0, none⟩ = some (.string k) := (hb3.cell (p := ⟨w.heap.size, 0, none⟩) (by simp <;> omega)).trans (by go_simp); have df0 : w3.frozen? ⟨w.heap.size, 0, none⟩ = false := (hb3.frozen (p := ⟨w.heap.size, 0, none⟩) (by simp <;> omega)).trans (by go_simp); have d1 : w3.cell? ⟨w.heap.size, 1, none⟩ = some (.string ⟨#[]⟩) := (hb3.cell (p := ⟨w.heap.size, 1, none⟩) (by simp <;> omega)).trans (by go_simp); have df1 : w3.frozen? ⟨w.heap.size, 1, none⟩ = false := (hb3.frozen (p := ⟨w.heap.size, 1, none⟩) (by simp <;> omega)).trans (by go_simp); have d2 : w3.cell? ⟨w.heap.size, 2, none⟩ = some (.bool false) := (hb3.cell (p := ⟨w.heap.size, 2, none⟩) (by simp <;> omega)).trans (by go_simp); have df2 : w3.frozen? ⟨w.heap.size, 2, none⟩ = false := (hb3.frozen (p := ⟨w.heap.size, 2, none⟩) (by simp <;> omega)).trans (by go_simp); have HB3 := hid ((HB2.out.setCell (p := ⟨w.heap.size, 0, none⟩) (Nat.le_refl _) (.string k)).trans (hb3.mono (by simp <;> omega))); clear hb3 c0 c1 c2 cf0 cf1 cf2) | (go_at_call 261; refine (sized_take_i _ _ hsz).mono ?_; rw [HP.out]; rintro e w2 ⟨rfl, hb2⟩; have hsw2 := hb2.size; simp only [World.size_alloc, World.size_setCell] at hsw2; have c0 : w2.cell? ⟨w.heap.size, 0, none⟩ = some (.string ⟨#[]⟩) := (hb2.cell (p := ⟨w.heap.size, 0, none⟩) (by simp <;> omega)).trans (by go_simp); have cf0 : w2.frozen? ⟨w.heap.size, 0, none⟩ = false := (hb2.frozen (p := ⟨w.heap.size, 0, none⟩) (by simp <;> omega)).trans (by go_simp); have c1 : w2.cell? ⟨w.heap.size, 1, none⟩ = some (.string ⟨#[]⟩) := (hb2.cell (p := ⟨w.heap.size, 1, none⟩) (by simp <;> omega)).trans (by go_simp); have cf1 : w2.frozen? ⟨w.heap.size, 1, none⟩ = false := (hb2.frozen (p := ⟨w.heap.size, 1, none⟩) (by simp <;> omega)).trans (by go_simp); have c2 : w2.cell? ⟨w.heap.size, 2, none⟩ = some (.bool false) := (hb2.cell (p := ⟨w.heap.size, 2, none⟩) (by simp <;> omega)).trans (by go_simp); have cf2 : w2.frozen? ⟨w.heap.size, 2, none⟩ = false := (hb2.frozen (p := ⟨w.heap.size, 2, none⟩) (by simp <;> omega)).trans (by go_simp); have HB2 := hid (bs0 hb2); clear hb2))
  refine bodyPost_ret (v := .tuple #[.agg #[.string k, .string ⟨#[]⟩, .bool false], .string ⟨#[]⟩, .bool false]) (by simp [results, Tryz.results222, go_sem, d0, d1, d2]) rfl ⟨⟨_, _, _, _, rfl⟩, ?_⟩
  (first | exact (((HB3.out.setCell (Nat.le_refl _) _).setCell (Nat.le_refl _) _).setCell (Nat.le_refl _) _) | exact ((((HB3.out.setCell (Nat.le_refl _) _).setCell (Nat.le_refl _) _).setCell (Nat.le_refl _) _).setCell (Nat.le_refl _) _) | exact (((((HB3.out.setCell (Nat.le_refl _) _).setCell (Nat.le_refl _) _).setCell (Nat.le_refl _) _).setCell (Nat.le_refl _) _).setCell (Nat.le_refl _) _) | exact ((((((HB3.out.setCell (Nat.le_refl _) _).setCell (Nat.le_refl _) _).setCell (Nat.le_refl _) _).setCell (Nat.le_refl _) _).setCell (Nat.le_refl _) _).setCell (Nat.le_refl _) _) | exact (((((((HB3.out.setCell (Nat.le_refl _) _).setCell (Nat.le_refl _) _).setCell (Nat.le_refl _) _).setCell (Nat.le_refl _) _).setCell (Nat.le_refl _) _).setCell (Nat.le_refl _) _).setCell (Nat.le_refl _) _))
end Go.Proofs.YtnmaknnnmjfhkagGreatDoor

namespace Go.Proofs.YtnmaknnnmjfhkagGreatDoor
open Go.RowKit
set_option maxRecDepth 4000
set_option linter.unusedVariables false
set_option linter.unusedSimpArgs false
/-- A root's box and a row of bytes behind a world: the box stands. -/
structure RI (W w : World) (c0 c1 c2 c3 : Value) : Prop where
  size : W.heap.size + 2 ≤ w.heap.size
  bel : Below W.heap.size W w
  b0 : w.cell? ⟨W.heap.size, 0, none⟩ = some c0
  b1 : w.cell? ⟨W.heap.size, 1, none⟩ = some c1
  b2 : w.cell? ⟨W.heap.size, 2, none⟩ = some c2
  b3 : w.cell? ⟨W.heap.size, 3, none⟩ = some c3
section
variable {W w w' : World} {c0 c1 c2 c3 : Value}
theorem RI.drew (h : RI W w c0 c1 c2 c3) : RI W w.drew c0 c1 c2 c3 := ⟨h.size, h.bel.drew, h.b0, h.b1, h.b2, h.b3⟩
theorem RI.past (h : RI W w c0 c1 c2 c3) (hb : Below (W.heap.size + 1) w w') : RI W w' c0 c1 c2 c3 :=
  have hs := h.size
  ⟨Nat.le_trans hs hb.size, h.bel.trans (hb.mono (by omega)), (hb.cell (p := ⟨_, 0, none⟩) (by show W.heap.size < _; omega)).trans h.b0, (hb.cell (p := ⟨_, 1, none⟩) (by show W.heap.size < _; omega)).trans h.b1,
    (hb.cell (p := ⟨_, 2, none⟩) (by show W.heap.size < _; omega)).trans h.b2, (hb.cell (p := ⟨_, 3, none⟩) (by show W.heap.size < _; omega)).trans h.b3⟩
theorem RI.below (h : RI W w c0 c1 c2 c3) (hb : Below w.heap.size w w') : RI W w' c0 c1 c2 c3 := h.past (hb.mono (by have := h.size; omega))
theorem RI.wrote {o : Nat} {ys : List Int} (h : RI W w c0 c1 c2 c3) (hw : Wrote w w' (W.heap.size + 1) o ys) : RI W w' c0 c1 c2 c3 := h.past (hw.below (Nat.le_refl _))
theorem RI.toS (h : RI W w c0 c1 c2 c3) : w.cell? ⟨W.heap.size, 0, none⟩ = some c0 ∧ w.cell? ⟨W.heap.size, 1, none⟩ = some c1 ∧ w.cell? ⟨W.heap.size, 2, none⟩ = some c2 ∧ w.cell? ⟨W.heap.size, 3, none⟩ = some c3 ∧ RI W w c0 c1 c2 c3 := ⟨h.b0, h.b1, h.b2, h.b3, h⟩
theorem RI.ofS (h : w.cell? ⟨W.heap.size, 0, none⟩ = some c0 ∧ w.cell? ⟨W.heap.size, 1, none⟩ = some c1 ∧ w.cell? ⟨W.heap.size, 2, none⟩ = some c2 ∧ w.cell? ⟨W.heap.size, 3, none⟩ = some c3 ∧ RI W w c0 c1 c2 c3) : RI W w c0 c1 c2 c3 := h.2.2.2.2
end
theorem wp_start5 {P : Program} {c : Code} {Q : Exit → Act → World → Prop} {a : Act} (w : World) (c0 c1 c2 c3 : Value) (t1 t2 : TypeId)
    (h : ∀ wa, RI w wa c0 c1 c2 c3 → Fm wa (w.heap.size + 1) [0, 0, 0, 0, 0] → c.wp P Q a wa) :
    c.wp P Q a ((w.alloc (.cells #[c0, c1, c2, c3] t1)).alloc (.cells #[.int .u8 0, .int .u8 0, .int .u8 0, .int .u8 0, .int .u8 0] t2)) := by
  refine h _ ⟨by simp, ((Below.refl _ _).alloc (Nat.le_refl _) _).alloc (by simp) _, by simp, by simp, by simp, by simp⟩ ⟨fun i hi => ?_, fun i hi => ?_⟩
  · rw [World.cell?_alloc_at _ _ _ _ (by simp)]
    have hi' : i < 5 := hi
    have : i = 0 ∨ i = 1 ∨ i = 2 ∨ i = 3 ∨ i = 4 := by omega
    rcases this with h | h | h | h | h <;> subst h <;> rfl
  · rw [frozen?_alloc_cells, frozen?_alloc_cells]
    exact frozen_past _ _ _ (by omega)
theorem rt_list (h f : Int) {xs1 xs2 : List Int} (h1 : xs1 = spl [0, 0, 0, 0, 0] 0 (be 1 h)) (h2 : xs2 = spl xs1 1 (be 4 f)) : strOfNums xs2 = rtPart h f := by
  have a1 : (be 1 h).length = 1 := be_length _ _
  have a2 : (be 4 f).length = 4 := be_length _ _
  unfold rtPart
  rw [← strOfNums_append]
  subst h1 h2
  congr 1
theorem rootpage_i_no (t h f l n : Int) (w : World) (hno : ¬ rtOk h f) : Calls Tryz.prog 227 #[rootV t h f l, .int .i64 n] w fun e w' => e = .returned (.string ByteArray.empty) ∧ Below w.heap.size w w' := by
  have hb0 : ∀ o, Below w.heap.size w (w.alloc o) := fun o => (Below.refl _ _).alloc (Nat.le_refl _) _
  unfold rtOk at hno
  by_cases d1 : 0 ≤ h ∧ h ≤ 1
  · have d1' : decide (0 ≤ h ∧ h ≤ 1) = true := decide_eq_true d1
    have d2' : decide (1 ≤ f ∧ f ≤ 999999000) = false := by simp; omega
    clear hno d1
    go_enter Tryz.func227, Tryz.ntmps227
    go_wp2_with (first | (go_at_call 223; refine (half_i _ _).mono ?_; rw [d1']; rintro e w1 ⟨rfl, rfl⟩) | (go_at_call 224; refine (first_i _ _).mono ?_; rw [d2']; rintro e w2 ⟨rfl, rfl⟩))
    go_ret
    exact ⟨rfl, hb0 _⟩
  · have d1' : decide (0 ≤ h ∧ h ≤ 1) = false := decide_eq_false d1
    clear hno d1
    go_enter Tryz.func227, Tryz.ntmps227
    go_wp2_with (first | (go_at_call 223; refine (half_i _ _).mono ?_; rw [d1']; rintro e w1 ⟨rfl, rfl⟩))
    go_ret
    exact ⟨rfl, hb0 _⟩
set_option maxRecDepth 4000 in
set_option maxHeartbeats 16000000 in
theorem rootpage_i_ok (t h f l n : Int) (w : World) (hok : rtOk h f) : Calls Tryz.prog 227 #[rootV t h f l, .int .i64 n] w fun e w' => e = .returned (.string (formOf 4 l t (rtPart h f) n)) ∧ Below w.heap.size w w' := by
  obtain ⟨h1, h2, h3, h4⟩ := hok
  have d1 : decide (0 ≤ h ∧ h ≤ 1) = true := by simp; omega
  have d2 : decide (1 ≤ f ∧ f ≤ 999999000) = true := by simp; omega
  have u1 : IntKind.u64.wrap h = h := wrap_u64_id h (by omega) (by omega)
  have u2 : IntKind.u64.wrap f = f := wrap_u64_id f (by omega) (by omega)
  obtain ⟨pt, HPT⟩ : ∃ pt, Hid (pt = rtPart h f) := ⟨_, hide rfl⟩
  rw [← HPT.out]
  go_enter Tryz.func227, Tryz.ntmps227
  go_wp2_with (first | (go_at_call 223; refine (half_i _ _).mono ?_; rw [d1]; rintro e w1 ⟨rfl, rfl⟩) | (go_at_call 224; refine (first_i _ _).mono ?_; rw [d2]; rintro e w2 ⟨rfl, rfl⟩))
  refine wp_start5 w (.int .i64 t) (.int .i64 h) (.int .i64 f) (.int .i64 l) _ _ ?_
  intro wa hpi0 hfm0
  have HS0 := hide hpi0.toS
  clear hpi0
  go_region_held3 (fun w' => w'.cell? ⟨w.heap.size, 0, none⟩ = some (.int .i64 t) ∧ w'.cell? ⟨w.heap.size, 1, none⟩ = some (.int .i64 h) ∧ w'.cell? ⟨w.heap.size, 2, none⟩ = some (.int .i64 f) ∧ w'.cell? ⟨w.heap.size, 3, none⟩ = some (.int .i64 l) ∧ RI w w' (.int .i64 t) (.int .i64 h) (.int .i64 f) (.int .i64 l))
    (first | assumption | exact (RI.ofS HS0.out).drew.toS | exact (RI.wrote (RI.ofS (by assumption)) (by assumption)).toS)
    (first | (go_at_call 263; refine (put_any (w.heap.size + 1) 0 1 5 h _ (by omega) (by omega) (by omega) (fun i hi => ⟨_, hfm0.drew.cell (0 + i) (by simp; omega)⟩) (fun i hi => hfm0.drew.froz (0 + i) (by simp; omega))).mono ?_; rintro e wb ⟨rfl, hw0⟩))
  have hpi1 : RI w wb (.int .i64 t) (.int .i64 h) (.int .i64 f) (.int .i64 l) := RI.ofS (by assumption)
  have hfm1 := hfm0.drew.wrote hw0 (by rw [be_length]; simp)
  obtain ⟨xs1, HX1⟩ : ∃ xs1, Hid (xs1 = spl [0, 0, 0, 0, 0] 0 (be 1 h)) := ⟨_, hide rfl⟩
  have hl1 : xs1.length = 5 := by rw [HX1.out, spl_length _ _ _ (by rw [be_length]; simp)]; rfl
  rw [← HX1.out] at hfm1
  clear HS0 hw0 hfm0
  go_wp2_with fail
  have HS1 := hide hpi1.toS
  clear hpi1
  go_region_held3 (fun w' => w'.cell? ⟨w.heap.size, 0, none⟩ = some (.int .i64 t) ∧ w'.cell? ⟨w.heap.size, 1, none⟩ = some (.int .i64 h) ∧ w'.cell? ⟨w.heap.size, 2, none⟩ = some (.int .i64 f) ∧ w'.cell? ⟨w.heap.size, 3, none⟩ = some (.int .i64 l) ∧ RI w w' (.int .i64 t) (.int .i64 h) (.int .i64 f) (.int .i64 l))
    (first | assumption | exact (RI.ofS HS1.out).drew.toS | exact (RI.wrote (RI.ofS (by assumption)) (by assumption)).toS)
    (first | (go_at_call 263; refine (put_any (w.heap.size + 1) 1 4 4 f _ (by omega) (by omega) (by omega) (fun i hi => ⟨_, hfm1.drew.cell (1 + i) (by rw [hl1]; omega)⟩) (fun i hi => hfm1.drew.froz (1 + i) (by rw [hl1]; omega))).mono ?_; rintro e wc ⟨rfl, hw1⟩))
  have hpi2 : RI w wc (.int .i64 t) (.int .i64 h) (.int .i64 f) (.int .i64 l) := RI.ofS (by assumption)
  have hfm2 := hfm1.drew.wrote hw1 (by rw [be_length, hl1]; omega)
  obtain ⟨xs2, HX2⟩ : ∃ xs2, Hid (xs2 = spl xs1 1 (be 4 f)) := ⟨_, hide rfl⟩
  have hl2 : xs2.length = 5 := by rw [HX2.out, spl_length _ _ _ (by rw [be_length, hl1]; omega), hl1]
  rw [← HX2.out] at hfm2
  have hPt : strOfNums xs2 = rtPart h f := rt_list h f HX1.out HX2.out
  rw [← HPT.out] at hPt
  have hpz : pt.size ≤ 1048576 := by rw [← hPt, strOfNums_size, hl2]; omega
  have hcv : ∀ wx, Fm wx (w.heap.size + 1) xs2 → (convert 47 9 (.slice (some ⟨w.heap.size + 1, 0, none⟩) 5 5)).run Tryz.prog wx = .ok (.string pt) wx := fun wx hf => by
    have := hf.text (P := Tryz.prog) 47 5 9 Tryz.underlying47 Tryz.underlying5 Tryz.underlying9 0 5 5 (by omega)
    rw [List.drop_zero, List.take_of_length_le (by omega), hPt] at this
    exact this
  have HCV := hide hcv
  have HFM := hide hfm2
  clear HS1 hw1 hfm1 hfm2 hcv
  go_wp2_with fail
  have HS2 := hide hpi2.toS
  clear hpi2
  have hFl : w.heap.size + 1 < wc.heap.size := by have := (RI.ofS HS2.out).size; omega
  go_region_held3 (fun w' => (convert 47 9 (.slice (some ⟨w.heap.size + 1, 0, none⟩) 5 5)).run Tryz.prog w' = .ok (.string pt) w' ∧ w'.cell? ⟨w.heap.size, 0, none⟩ = some (.int .i64 t) ∧ w'.cell? ⟨w.heap.size, 3, none⟩ = some (.int .i64 l) ∧ RI w w' (.int .i64 t) (.int .i64 h) (.int .i64 f) (.int .i64 l))
    (first | assumption | exact ⟨HCV.out _ HFM.out.drew, (RI.ofS HS2.out).drew.b0, (RI.ofS HS2.out).drew.b3, (RI.ofS HS2.out).drew⟩ | exact ⟨HCV.out _ (HFM.out.drew.below hb4 hFl), ((RI.ofS HS2.out).drew.below hb4).b0, ((RI.ofS HS2.out).drew.below hb4).b3, (RI.ofS HS2.out).drew.below hb4⟩)
    (first | (go_at_call 228; refine (form_i_any 4 l t pt n _ hpz).mono ?_; rintro e w4 ⟨rfl, hb4⟩))
  rename_i hSl
  have hbl := hSl.2.2.2.bel
  clear hSl
  go_wp2
  go_ret
  exact ⟨rfl, hbl⟩
theorem rootpage_i_any (t h f l n : Int) (w : World) : Calls Tryz.prog 227 #[rootV t h f l, .int .i64 n] w fun e w' => e = .returned (.string (rtForm t h f l n)) ∧ Below w.heap.size w w' := by
  unfold rtForm
  by_cases hok : rtOk h f
  · rw [if_pos hok]; exact rootpage_i_ok t h f l n w hok
  · rw [if_neg hok]; exact rootpage_i_no t h f l n w hok
end Go.Proofs.YtnmaknnnmjfhkagGreatDoor

namespace Go.Proofs.YtnmaknnnmjfhkagGreatDoor
open Go.RowKit
set_option linter.unusedVariables false

theorem results_cell1_tmp {P : Program} {fn : Func} {p u : Tmp} {ty : TypeId} (h : fn.results = #[.cell p ty, .tmp u]) (tmps : Array Value) (w : World) (b o : Nat) (hp : tmps.getD p undef = .pointer (some ⟨b, o, none⟩))
    (cs : List Value) (d : TypeDesc) (hc : w.rangeAt b o cs) (hu : P.underlying ty = some d) (hd : d.isRow = true) (hi : (P.info? ty).map (·.size) = some cs.length) : (results fn tmps).run P w = .ok (.tuple #[.agg cs.toArray, tmps.getD u undef]) w := by
  have hl := run_loadVar_mid (P := P) w b o ty cs d hc hu hd hi
  rw [results_cell_tmp h]
  simp [hp, asAddr, hl, Result.andThen]

set_option maxRecDepth 100000 in
set_option maxHeartbeats 16000000 in
theorem rd_plate (g n c m : Nat) (ps : List (List Int)) (w : World) (hp : PR w g ps) (hl : ps.length = n) (hn2 : n ≤ 200) (hm : m < n) :
    Calls Tryz.prog 309 #[.slice (some ⟨g, 0, none⟩) n c, .int .i64 (m : Int)] w fun e w' => e = .returned (.tuple #[.agg ((ps.getD m []).map (Value.int .u8)).toArray, .bool true]) ∧ Below w.heap.size w w' := by
  have hrg : ∀ o, (w.alloc o).rangeAt g (m * 64) ((ps.getD m []).map (Value.int .u8)) := fun o => (hp.below (below_new w o)).range (k := m) (by omega)
  have hxl := getD_len hp.len (k := m) (by omega)
  obtain ⟨x, HX⟩ : ∃ x, Hid (x = ps.getD m []) := ⟨_, hid rfl⟩
  rw [← HX.out] at hrg hxl ⊢
  have hxm : (x.map (Value.int .u8)).toArray.size = 64 := by simp [hxl]
  have HI64 : Hid ((Tryz.prog.info? 267).map (·.size) = some (x.map (Value.int .u8)).length) := by show _ = _; rw [List.length_map, hxl]; kernel_rfl
  have HRG := hid hrg
  have hm0 : ¬ ((m : Int) < 0) := by omega
  have hm1 : ¬ (n ≤ m) := by omega
  clear hrg
  go_enter Tryz.func309, Tryz.ntmps309
  go_wp2_with (first | (with_reducible refine at_load 267 _ rfl ?_; refine wpList_load_mid rfl 267 _ rfl g (m * 64) rfl (x.map (Value.int .u8)) _ (by exact HRG.out _) Tryz.underlying267 rfl HI64.out ?_) | (with_reducible refine at_store 267 _ _ rfl ?_; refine wpList_store_mid rfl 267 _ _ rfl w.heap.size 0 (x.map (Value.int .u8)).toArray rfl rfl (by rw [hxm]; exact (row_new w _ _).there (by kernel_rfl)) (by rw [hxm]; kernel_rfl) (all_oneCell_toArray (ints_one x)) ?_))
  refine bodyPost_ret (v := .tuple #[.agg (x.map (Value.int .u8)).toArray, .bool true]) (results_cell1_tmp (p := 4) (u := 5) Tryz.results309 _ _ w.heap.size 0 rfl (x.map (Value.int .u8)) _ (World.rangeAt_setCells_same _ _ _ _ (by rw [List.length_map, hxl]; exact (row_new w _ _).there (by kernel_rfl))) Tryz.underlying267 rfl HI64.out) rfl ⟨rfl, ?_⟩
  exact Go.below_setCells (Nat.le_refl _) _ _ _ (below_new _ _)
set_option maxRecDepth 100000 in
set_option maxHeartbeats 16000000 in
theorem rdr (a a' : Option Addr) (n c n' c' : Nat) (w : World) :
    Calls Tryz.prog 150 #[.agg #[.slice a n c, .slice a' n' c']] w fun e w' => e = .returned (.iface 272 (.agg #[.slice a' n' c', .iface 199 (.slice a n c)])) ∧ Below w.heap.size w w' := by
  go_enter Tryz.func150, Tryz.ntmps150
  go_wp2
  go_ret
  exact ⟨rfl, below_new _ _⟩
end Go.Proofs.YtnmaknnnmjfhkagGreatDoor

namespace Go.Proofs.YtnmaknnnmjfhkagGreatDoor
open Go.RowKit
set_option linter.unusedVariables false
/-- A sector of zeros. -/
def z64 : List Int := List.replicate 64 0
theorem z64_length : z64.length = 64 := by simp [z64]
set_option maxRecDepth 100000 in
set_option maxHeartbeats 16000000 in
theorem rd_plate_no (g n c : Nat) (m : Int) (w : World) (hn2 : n ≤ 200) (hm : ¬ (0 ≤ m ∧ m < (n : Int))) :
    Calls Tryz.prog 309 #[.slice (some ⟨g, 0, none⟩) n c, .int .i64 m] w fun e w' => e = .returned (.tuple #[.agg (z64.map (Value.int .u8)).toArray, .bool false]) ∧ Below w.heap.size w w' := by
  by_cases h0 : m < 0
  · go_enter Tryz.func309, Tryz.ntmps309
    go_wp2_with (with_reducible refine at_store 267 _ _ rfl ?_; refine wpList_store_mid rfl 267 _ _ rfl w.heap.size 0 _ rfl rfl (by exact (row_new w _ _).there (by kernel_rfl)) (by kernel_rfl) (by kernel_rfl) ?_)
    refine bodyPost_ret (results_cell1_tmp (p := 4) (u := 5) Tryz.results309 _ _ w.heap.size 0 rfl _ _ (World.rangeAt_setCells_same _ _ _ _ (by exact (row_new w _ _).there (by kernel_rfl))) Tryz.underlying267 rfl (by kernel_rfl)) rfl ⟨by kernel_rfl, ?_⟩
    exact Go.below_setCells (Nat.le_refl _) _ _ _ (below_new _ _)
  · have h1 : (n : Int) ≤ m := by omega
    go_enter Tryz.func309, Tryz.ntmps309
    go_wp2_with (with_reducible refine at_store 267 _ _ rfl ?_; refine wpList_store_mid rfl 267 _ _ rfl w.heap.size 0 _ rfl rfl (by exact (row_new w _ _).there (by kernel_rfl)) (by kernel_rfl) (by kernel_rfl) ?_)
    refine bodyPost_ret (results_cell1_tmp (p := 4) (u := 5) Tryz.results309 _ _ w.heap.size 0 rfl _ _ (World.rangeAt_setCells_same _ _ _ _ (by exact (row_new w _ _).there (by kernel_rfl))) Tryz.underlying267 rfl (by kernel_rfl)) rfl ⟨by kernel_rfl, ?_⟩
    exact Go.below_setCells (Nat.le_refl _) _ _ _ (below_new _ _)
end Go.Proofs.YtnmaknnnmjfhkagGreatDoor

namespace Go.Proofs.YtnmaknnnmjfhkagGreatDoor
open Go.RowKit
set_option maxRecDepth 4000

/-- One part that fills the whole. -/
theorem fold_whole (cs : List Value) (z : Array Value) (hz : z.size = cs.length) : (cs.toArray.zipIdx.foldl (fun r (x : Value × Nat) => r.setIfInBounds (0 + x.2) x.1) z) = cs.toArray := by
  rw [← Array.foldl_toList, Array.toList_zipIdx]
  obtain ⟨h1, h2⟩ := Great.foldl_set 0 cs 0 z
  apply Array.ext_getElem?
  intro k
  have := h2 k
  rw [this]
  by_cases hk : k < cs.length
  · rw [if_pos (by omega)]; simp
  · rw [if_neg (by omega), Array.getElem?_eq_none (by omega), Array.getElem?_eq_none (by simpa using hk)]
/-- A part of one cell, then the rest. -/
theorem fold_two (v : Value) (cs : List Value) (z : Array Value) (hz : z.size = cs.length + 1) : (cs.toArray.zipIdx.foldl (fun r (x : Value × Nat) => r.setIfInBounds (1 + x.2) x.1) (#[v].zipIdx.foldl (fun r (x : Value × Nat) => r.setIfInBounds (0 + x.2) x.1) z)) = (v :: cs).toArray := by
  rw [← Array.foldl_toList, ← Array.foldl_toList, Array.toList_zipIdx, Array.toList_zipIdx]
  obtain ⟨h1, h2⟩ := Great.foldl_set 0 [v] 0 z
  obtain ⟨h3, h4⟩ := Great.foldl_set 1 cs 0 (([v].zipIdx 0).foldl (fun cs (x : Value × Nat) => cs.setIfInBounds (0 + x.2) x.1) z)
  apply Array.ext_getElem?
  intro k
  have e := h4 k
  rw [e]
  by_cases hk : 1 ≤ k ∧ k < 1 + cs.length
  · rw [if_pos ⟨by omega, by omega, by rw [h1]; omega⟩]
    obtain ⟨j, rfl⟩ : ∃ j, k = j + 1 := ⟨k - 1, by omega⟩
    simp
  · rw [if_neg (by omega), h2 k]
    by_cases h0 : k = 0
    · subst h0
      rw [if_pos ⟨by omega, by simp, by omega⟩]
      simp
    · rw [if_neg (by simp; omega), Array.getElem?_eq_none (by omega), Array.getElem?_eq_none (by simp; omega)]

theorem fold_two' (v : Value) (cs : List Value) (z : Array Value) (hz : z.size = cs.length + 1) : List.foldl (fun (r : Array Value) (x : Value × Nat) => r.setIfInBounds (1 + x.snd) x.fst) (z.setIfInBounds 0 v) cs.zipIdx = (v :: cs).toArray := by
  obtain ⟨h3, h4⟩ := Great.foldl_set 1 cs 0 (z.setIfInBounds 0 v)
  apply Array.ext_getElem?
  intro k
  have e := h4 k
  rw [e, Array.size_setIfInBounds]
  by_cases hk : 1 ≤ k ∧ k < 1 + cs.length
  · rw [if_pos ⟨by omega, by omega, by omega⟩]
    obtain ⟨j, rfl⟩ : ∃ j, k = j + 1 := ⟨k - 1, by omega⟩
    simp
  · rw [if_neg (by omega)]
    by_cases h0 : k = 0
    · subst h0
      simp [show 0 < z.size by omega]
    · rw [Array.getElem?_eq_none (by simp; omega), Array.getElem?_eq_none (by simp; omega)]
theorem fold_tail (v : Value) (cs : List Value) (n : Nat) (hn : cs.length + 1 = n) (z : Array Value) (hz : z.size = n) (h0 : z[0]? = some v) : List.foldl (fun (r : Array Value) (x : Value × Nat) => r.setIfInBounds x.snd x.fst) z (cs.zipIdx 1) = (v :: cs).toArray := by
  obtain ⟨h3, h4⟩ := Great.foldl_set 0 cs 1 z
  have e0 : (fun (r : Array Value) (x : Value × Nat) => r.setIfInBounds (0 + x.2) x.1) = fun (r : Array Value) (x : Value × Nat) => r.setIfInBounds x.snd x.fst := by funext r x; rw [Nat.zero_add]
  rw [e0] at h3 h4
  apply Array.ext_getElem?
  intro k
  rw [h4 k]
  by_cases hk : 1 ≤ k ∧ k < 1 + cs.length
  · rw [if_pos ⟨by omega, by omega, by omega⟩]
    obtain ⟨j, rfl⟩ : ∃ j, k = j + 1 := ⟨k - 1, by omega⟩
    simp
  · rw [if_neg (by omega)]
    by_cases hk0 : k = 0
    · subst hk0; rw [h0]; simp
    · rw [Array.getElem?_eq_none (by omega), Array.getElem?_eq_none (by simp; omega)]
theorem fold_one' (cs : List Value) (z : Array Value) (hz : z.size = cs.length) : List.foldl (fun (r : Array Value) (x : Value × Nat) => r.setIfInBounds x.snd x.fst) z cs.zipIdx = cs.toArray := by
  have h := fold_whole cs z hz
  rw [← Array.foldl_toList, Array.toList_zipIdx] at h
  simpa using h
theorem heldZ_size : heldZ.size = 65 := by kernel_rfl
theorem heldZ_ne : ¬ (heldZ = #[]) := fun h => by have := congrArg Array.size h; rw [heldZ_size] at this; cases this
theorem fieldsHeld : ∃ fs it, Tryz.prog.underlying 270 = some (.struct fs) ∧ Tryz.prog.info? 270 = some it ∧ it.zero = some (.agg heldZ) ∧ fs.toList.mapM (fun f => (Tryz.prog.info? f.type).map fun i => (f.offset, i.size)) = some [(0, 1), (1, 64)] := by
  obtain ⟨it, h1, h2⟩ := Option.map_eq_some_iff.1 (show (Tryz.prog.info? 270).map (·.zero) = some (some (.agg heldZ)) by kernel_rfl)
  exact ⟨_, it, Tryz.underlying270, h1, h2, by kernel_rfl⟩
theorem build_held (n : Int) (x : List Int) (hx : x.length = 64) (w : World) : (Instr.build 270 #[(0, .int .i64 n), (1, .agg (x.map (Value.int .u8)).toArray)]).run Tryz.prog w = .ok (.agg (Value.int .i64 n :: x.map (Value.int .u8)).toArray) w := by
  obtain ⟨fs, it, h1, h2, h3, h4⟩ := fieldsHeld
  apply run_build
  unfold Program.built
  rw [h2, h1]
  simp only [h3, h4]
  have hz : heldZ.size = (x.map (Value.int .u8)).length + 1 := by rw [List.length_map, hx]; kernel_rfl
  have hf := fold_two (.int .i64 n) (x.map (Value.int .u8)) heldZ hz
  have c1 : (Value.int .i64 n).cells = #[Value.int .i64 n] := rfl
  have c2 : (Value.agg (x.map (Value.int .u8)).toArray).cells = (x.map (Value.int .u8)).toArray := rfl
  have c3 : (Value.agg heldZ).cells = heldZ := rfl
  have hs : (x.map (Value.int .u8)).toArray.size = 64 := by simp [hx]
  have hz65 : heldZ.size = 65 := by kernel_rfl
  have hz2 : (#[Value.int .i64 n].zipIdx.foldl (fun r (x : Value × Nat) => r.setIfInBounds (0 + x.2) x.1) heldZ).size = 65 := by simp [hz65]
  unfold Instr.fill
  simp only [c3, c1]
  rw [show (([(0, 1), (1, 64)] : List (Nat × Nat)).toArray)[0]? = some (0, 1) from rfl]
  simp only
  rw [if_neg (by simp [hz65])]
  unfold Instr.fill
  rw [show (([(0, 1), (1, 64)] : List (Nat × Nat)).toArray)[1]? = some (1, 64) from rfl]
  simp only [c2]
  rw [if_neg (by rw [hs, hz2]; simp)]
  unfold Instr.fill
  rw [hf]
theorem slice_held (cs : List Value) (hx : cs.length = 65) (w : World) : (Instr.buildSlice 200 1 #[(0, .agg cs.toArray)]).run Tryz.prog w = .ok (.slice (some ⟨w.heap.size, 0, none⟩) 1 1) (w.alloc (.cells cs.toArray 270)) := by
  obtain ⟨it, h1, h2⟩ := Option.map_eq_some_iff.1 (show (Tryz.prog.info? 270).map (fun i => (i.zero, i.size)) = some (some (.agg heldZ), 65) by kernel_rfl)
  simp only [Prod.mk.injEq] at h2
  refine run_buildSlice w 200 270 1 _ cs.toArray it (.agg heldZ) Tryz.underlying200 h1 h2.1 (by rw [h2.2]; omega) (by rw [h2.2]; omega) ?_
  rw [h2.2]
  have hsz : ((Array.range (1 * 65)).map ((Value.agg heldZ).cells[· % (Value.agg heldZ).cells.size]!)).size = cs.length := by simp [hx]
  have hf := fold_whole cs _ hsz
  have c2 : (Value.agg cs.toArray).cells = cs.toArray := rfl
  show Instr.fill _ _ [(0, .agg cs.toArray)] = _
  unfold Instr.fill
  simp only [c2, Nat.zero_mul]
  rw [if_neg (by rw [hsz]; simp [hx])]
  unfold Instr.fill
  rw [hf]
end Go.Proofs.YtnmaknnnmjfhkagGreatDoor

namespace Go.Proofs.YtnmaknnnmjfhkagGreatDoor
open Go.RowKit
set_option linter.unusedVariables false

theorem infoHeld : (Tryz.prog.info? 270).map (fun i => (i.zero, i.size, i.bytes)) = some (some (.agg heldZ), 65, 72) := by kernel_rfl
/-- The plate filled up to k. -/
def pup (ss : List ByteArray) (k : Nat) : List (List Int) := (ss.take k).map nums ++ List.replicate (ss.length - k) (List.replicate 64 0)
theorem pup_length (ss : List ByteArray) (k : Nat) (h : k ≤ ss.length) : (pup ss k).length = ss.length := by simp [pup]; omega
theorem pup_all (ss : List ByteArray) (k : Nat) (h : ss.length ≤ k) : pup ss k = ss.map nums := by unfold pup; rw [List.take_of_length_le h, show ss.length - k = 0 by omega]; simp
theorem pup_set (ss : List ByteArray) (k : Nat) (h : k < ss.length) : (pup ss k).set k (nums (ss.getD k ByteArray.empty)) = pup ss (k + 1) := by
  unfold pup
  rw [List.set_append_right _ _ (by simp; omega)]
  have e1 : k - ((ss.take k).map nums).length = 0 := by simp; omega
  rw [e1, show ss.length - k = (ss.length - (k + 1)) + 1 by omega, List.replicate_succ, List.set_cons_zero, List.take_succ_eq_append_getElem h, List.map_append, List.append_assoc]
  simp [List.getD, h]

def hsOf (ws : List (Int × ByteArray)) : List (Int × List Int) := ws.map fun x => (x.1, nums x.2)
theorem hsOf_length (ws : List (Int × ByteArray)) : (hsOf ws).length = ws.length := by simp [hsOf]
theorem hsOf_take (ws : List (Int × ByteArray)) (k : Nat) (h : k < ws.length) : hsOf (ws.take (k + 1)) = hsOf (ws.take k) ++ [((ws.getD k (0, ByteArray.empty)).1, nums (ws.getD k (0, ByteArray.empty)).2)] := by
  unfold hsOf
  rw [List.take_succ_eq_append_getElem h, List.map_append]
  simp [List.getD, h]

set_option maxRecDepth 100000 in
set_option maxHeartbeats 16000000 in
theorem drv_i (a : Option Addr) (ss : List ByteArray) (c : Nat) (a' : Option Addr) (ws : List (Int × ByteArray)) (c' : Nat) (w : World) (h : Strs w a ss) (h' : Wrs w a' ws) (hl : ss.length ≤ 200) (hl' : ws.length ≤ 300) (h64 : ∀ s ∈ ss, s.size = 64) (h64' : ∀ x ∈ ws, x.2.size = 64) :
    Calls Tryz.prog 149 #[diskV a ss.length c a' ws.length c'] w fun e w' => ∃ g v, e = .returned (.agg #[.slice (some ⟨g, 0, none⟩) ss.length ss.length, v]) ∧ PR w' g (ss.map nums) ∧ w'.ownsRow (g + 1) 270 65 v ws.length (hcells (hsOf ws)) ∧ w.heap.size ≤ g ∧ Below w.heap.size w w' := by
  obtain ⟨i0, hi0, hz0, hz1, hz2⟩ := info_parts' infoHeld
  have HI := hid (And.intro hi0 (And.intro hz0 (And.intro hz1 hz2)))
  clear hi0 hz0 hz1 hz2
  go_enter Tryz.func149, Tryz.ntmps149
  go_wp2_with (at_make; refine wpList_make_new rfl _ _ 199 rfl 267 _ 64 64 Tryz.underlying199 infoSec ss.length rfl rfl (by omega) (by omega) ?_; intro wx hrow hbx hsx; rw [made_secs] at hrow; have hst := Drs.start w wx ss.length _ _ _ _ 202 270 hbx (by simpa using hsx) (by simpa using hrow); have b0 : wx.cell? ⟨w.heap.size, 0, none⟩ = some (.slice a ss.length c) := ((hbx.cell (p := ⟨w.heap.size, 0, none⟩) (by simp; omega)).trans (by go_simp)); have hszx : wx.heap.size = w.heap.size + 1 + 1 + 1 := (by simpa using hsx); have hltx : w.heap.size < wx.heap.size := (by omega); have HST := hid hst; clear hst hbx hsx hrow)
  have HX0 : Hid (List.replicate ss.length (List.replicate 64 0) = pup ss 0) := by show _ = _; simp [pup]
  rw [HX0.out] at HST
  go_loopw [4, 5, 16] (fun _ _ i wr => ∃ k : Nat, k ≤ ss.length ∧ i = .int .i64 k ∧ Drs w wr ss.length (.slice a' ws.length c') 270 (.slice none 0 0) (pup ss k) []) (fun _ _ i _ => ss.length - (intOf i).toNat)
  case atStart => exact ⟨0, Nat.zero_le _, rfl, HST.out⟩
  case round =>
    clear HST hszx hltx b0 HX0
    obtain ⟨k, hk, rfl, hd⟩ := hrel
    by_cases hlt : k < ss.length
    · obtain ⟨b, o, s, rfl, hc, HS⟩ := (h.below hd.bel).at hlt
      have hs64 : s.size = 64 := by rw [HS.out]; exact h64 _ (by simp [List.getD, hlt])
      have hxm : ((nums s).map (Value.int .u8)).length = 64 := by rw [List.length_map, nums_length, hs64]
      have HL := hid (pup_length ss k hk)
      have HI64 : (Tryz.prog.info? 267).map (·.size) = some ((nums s).map (Value.int .u8)).length := by rw [hxm]; kernel_rfl
      have hone := ints_one (nums s)
      have hu := Tryz.underlying267
      have hk0 : (0 : Int) ≤ (k : Int) := by omega
      have hk1 : (k : Int) < (ss.length : Int) := by omega
      have HT := hid (hd.pr.there (k := k) (by rw [HL.out]; exact hlt))
      have HD := hid hd
      have HS64 := hid hs64
      clear hd hs64
      go_wp2_with fail
      clear hc
      go_region_held3 (fun w' => w'.cell? ⟨w.heap.size + 1 + 1 + 1, 0, none⟩ = some (.slice (some ⟨w.heap.size + 1 + 1, 0, none⟩) ss.length ss.length) ∧ w'.there (w.heap.size + 1 + 1) (k * 64) 64)
        (first | assumption | exact ⟨HD.out.d0, HT.out⟩ | exact ⟨(HD.out.drew.below hb2).d0, (HD.out.drew.below hb2).pr.there (by rw [HL.out]; exact hlt)⟩ | exact ⟨(World.cell?_setCells_out _ _ _ _ _ (fun e => by simp at e)).trans (HD.out.drew.below hb2).d0, World.there_setCells ((HD.out.drew.below hb2).pr.there (by rw [HL.out]; exact hlt)) _ _ _⟩)
        (first | (go_at_call 216; refine (sec_i s _ HS64.out).mono ?_; rintro e w2 ⟨rfl, hb2⟩))
      have hfill := (HD.out.drew.below hb2).fill rfl k (by rw [HL.out]; exact hlt) (nums s) (by rw [nums_length, HS64.out])
      rw [show (pup ss k).set k (nums s) = pup ss (k + 1) by rw [HS.out]; exact pup_set ss k hlt] at hfill
      have HF := hid hfill
      clear hfill hb2
      go_wp2
      go_roundw
      case rel => exact ⟨k + 1, by omega, by go_num, HF.out⟩
      case measure => simp [intOf]; omega
    · have hall := pup_all ss k (by omega)
      rw [hall] at hd
      have q1 := hd.b1
      have HD0 := hid hd
      clear hd hall
      go_wp2
      go_loopw [7, 31] (fun _ i wr => ∃ (k : Nat) (v : Value), k ≤ ws.length ∧ i = .int .i64 k ∧ Drs w wr ss.length (.slice a' ws.length c') 270 v (ss.map nums) (hsOf (ws.take k))) (fun _ i _ => ws.length - (intOf i).toNat)
      case atStart => exact ⟨0, _, Nat.zero_le _, rfl, HD0.out⟩
      case round =>
        clear HD0 q1
        obtain ⟨k2, v, hk2, rfl, hd⟩ := hrel
        by_cases hlt2 : k2 < ws.length
        · obtain ⟨b, o, m, s, rfl, hc, hc2, HS⟩ := (h'.below hd.bel).at hlt2
          have hs64 : s.size = 64 := h64' (m, s) (by rw [HS.out]; simp [List.getD, hlt2])
          have hnl : (nums s).length = 64 := by rw [nums_length, hs64]
          have hhl : (hsOf (ws.take k2)).length = k2 := by rw [hsOf_length]; simp; omega
          have HL := hid hhl
          have HS64 := hid hs64
          have hzh := zeroHeld
          have hz65 := heldZ_size
          have hzne := heldZ_ne
          have hfold := fold_two' (.int .i64 m) ((nums s).map (Value.int .u8)) heldZ (by rw [heldZ_size, List.length_map, hnl])
          have hfold2 := fold_tail (.int .i64 m) ((nums s).map (Value.int .u8)) 65 (by rw [List.length_map, hnl])
          have HD := hid (hd.alloc (.cells #[.int .i64 m, .string s] 183))
          have hszr := hd.sz
          have hlr : w.heap.size + 1 + 1 + 1 < wr.heap.size := by omega
          have q1 := hd.d1
          have q2 := hd.fd1
          clear hd hs64 hhl
          go_wp2_with fail
          clear hc hc2
          have hx0 : (wr.alloc (.cells #[.int .i64 m, .string s] 183)).cell? ⟨wr.heap.size, 0, none⟩ = some (.int .i64 m) := by rw [World.cell?_alloc_at _ _ _ _ rfl]; rfl
          have hx1 : (wr.alloc (.cells #[.int .i64 m, .string s] 183)).cell? ⟨wr.heap.size, 1, none⟩ = some (.string s) := by rw [World.cell?_alloc_at _ _ _ _ rfl]; rfl
          have hly : wr.heap.size < (wr.alloc (.cells #[.int .i64 m, .string s] 183)).heap.size := by simp
          obtain ⟨wy, HWY⟩ : ∃ wy, wy = wr.alloc (.cells #[.int .i64 m, .string s] 183) := ⟨_, rfl⟩
          rw [← HWY] at HD hx0 hx1 hly ⊢
          clear HWY q1 q2
          have q1 := HD.out.d1
          have q2 := HD.out.fd1
          have HX0 := hid hx0
          have HY := hid hly
          go_region_law (first | (refine step_append_lies _ (by rfl) _ _ _ (by rfl) (w.heap.size + 1 + 1 + 1 + 1) 270 i0 (.agg heldZ) 65 72 Tryz.underlying200 HI.out.1 HI.out.2.1 HI.out.2.2.1 HI.out.2.2.2 (by kernel_rfl) (by omega) v (hsOf (ws.take k2)).length (hcells (hsOf (ws.take k2))) (by rfl) HO.out ⟨w2.heap.size, 0, none⟩ 1 1 (Value.int .i64 m :: (nums s).map (Value.int .u8)) (by rfl) (by simp [hnl]) (World.news_of_block (heap_alloc_new w2 _)) (held_one m (nums s)) (by omega) (by rw [HL.out]; unfold maxLen; omega) (by rw [HL.out]; omega) (by simp <;> omega) (w2.heap.size + 1) (by simp) ?_; intro g cap w3 hown hgrow hat hlt3; obtain ⟨q4, q5⟩ := HDA.out.grown hgrow; have HOW := hid hown; have HGR := hid hgrow; clear hown hgrow hat) | (refine step_call (by rfl) 216 #[.string s] (by go_simp) (sec_i s _ HS64.out) ?_; rintro e w2 ⟨rfl, hb2⟩; refine ⟨_, rfl, ?_⟩; have y0 := (hb2.cell (p := ⟨wr.heap.size, 0, none⟩) HY.out).trans HX0.out; have y1 := (HD.out.drew.below hb2).d1; have y2 := (HD.out.drew.below hb2).sz; have y3 : w.heap.size + 1 + 1 + 1 < w2.heap.size := (by omega); have HDA := hid ((HD.out.drew.below hb2).alloc (.cells (Value.int .i64 m :: (nums s).map (Value.int .u8)).toArray 270)); have HO := hid HDA.out.own))
          all_goals
            have hpush := HDA.out.push (x := (m, nums s)) hnl HOW.out HGR.out
            rw [show (m, nums s) = ((ws.getD k2 (0, ByteArray.empty)).1, nums (ws.getD k2 (0, ByteArray.empty)).2) by rw [← HS.out], ← hsOf_take ws k2 hlt2] at hpush
            have HP := hid hpush
            clear hpush hfold hfold2 hz65 hzne hzh
            go_wp2
            go_roundw
            case rel => exact ⟨k2 + 1, _, by omega, by go_num, HP.out⟩
            case measure => simp [intOf]; omega
        · have hkn : Hid (ws.take k2 = ws) := List.take_of_length_le (by omega)
          rw [hkn.out] at hd
          have HD := hid hd
          have q0 := hd.d0
          have q1 := hd.d1
          have q2 := hd.r0
          have q3 := hd.r1
          have q4 := hd.fr0
          have q5 := hd.fr1
          obtain ⟨av, nv, cv, rfl⟩ : ∃ a n c, v = .slice a n c := by rcases owns_forms hd.own with ⟨e, _⟩ | ⟨g, c, e, _⟩ <;> exact ⟨_, _, _, e⟩
          clear hd
          go_wp2
          have own1 := ownsRow_setCell_below (ownsRow_setCell_below HD.out.own (a := ⟨w.heap.size + 1, 0, none⟩) (by show w.heap.size + 1 < _; omega) (.slice (some ⟨w.heap.size + 1 + 1, 0, none⟩) ss.length ss.length)) (a := ⟨w.heap.size + 1, 1, none⟩) (by show w.heap.size + 1 < _; omega) (.slice av nv cv)
          rw [hsOf_length] at own1
          refine bodyPost_ret (v := .agg #[.slice (some ⟨w.heap.size + 1 + 1, 0, none⟩) ss.length ss.length, .slice av nv cv]) (by simp [results, Tryz.results149, go_sem, q2, q3]) rfl ⟨w.heap.size + 1 + 1, _, rfl, ?_, own1.mono (by omega), by omega, ?_⟩
          · exact (HD.out.pr.other _ (by show w.heap.size + 1 ≠ w.heap.size + 1 + 1; omega) _).other _ (by show w.heap.size + 1 ≠ w.heap.size + 1 + 1; omega) _
          · exact (HD.out.bel.setCell (by show w.heap.size ≤ w.heap.size + 1; omega) _).setCell (by show w.heap.size ≤ w.heap.size + 1; omega) _
end Go.Proofs.YtnmaknnnmjfhkagGreatDoor

namespace Go.Proofs.YtnmaknnnmjfhkagGreatDoor
open Go.RowKit
set_option linter.unusedVariables false

/-- What is read through what is pending. -/
def covs : List (Int × List Int) → List (List Int) → List (List Int)
  | [], ps => ps
  | x :: r, ps => covs r (ps.set x.1.toNat x.2)
theorem covs_length : ∀ (hs : List (Int × List Int)) (ps : List (List Int)), (covs hs ps).length = ps.length
  | [], _ => rfl
  | x :: r, ps => by rw [covs, covs_length r]; simp
theorem covs_append : ∀ (hs : List (Int × List Int)) (x : Int × List Int) (ps : List (List Int)), covs (hs ++ [x]) ps = (covs hs ps).set x.1.toNat x.2
  | [], _, _ => rfl
  | y :: r, x, ps => by rw [List.cons_append, covs, covs_append r]; rfl
theorem covs_take (hs : List (Int × List Int)) (ps : List (List Int)) (k : Nat) (h : k < hs.length) : covs (hs.take (k + 1)) ps = (covs (hs.take k) ps).set (hs.getD k (0, [])).1.toNat (hs.getD k (0, [])).2 := by
  rw [List.take_succ_eq_append_getElem h, covs_append]
  simp [List.getD, h]

theorem meth_plate (k : Nat) (a : Option Addr) (n c : Nat) (w : World) : Sem.run Tryz.prog (method (k + 1) 199 (.slice a n c) "loop.example/kilnstone/impl.read") w = .ok (309, .slice a n c) w := by kernel_rfl
theorem meth_cover (k : Nat) (v v' : Value) (w : World) : Sem.run Tryz.prog (method (k + 1) 272 (.agg #[v, v']) "loop.example/kilnstone/impl.read") w = .ok (313, .agg #[v, v']) w := by kernel_rfl

set_option maxRecDepth 100000 in
set_option maxHeartbeats 16000000 in
theorem rd_cover (a : Option Addr) (hs : List (Int × List Int)) (c : Nat) (g n cg m : Nat) (ps : List (List Int)) (w : World) (h : Hld w a hs) (h64 : ∀ p ∈ hs, p.2.length = 64) (hpos : ∀ p ∈ hs, 0 ≤ p.1) (hl : hs.length ≤ 300) (hp : PR w g ps) (hpl : ps.length = n) (hn2 : n ≤ 200) (hm : m < n) :
    Calls Tryz.prog 313 #[.agg #[.slice a hs.length c, .iface 199 (.slice (some ⟨g, 0, none⟩) n cg)], .int .i64 (m : Int)] w fun e w' => e = .returned (.tuple #[.agg (((covs hs ps).getD m []).map (Value.int .u8)).toArray, .bool true]) ∧ Below w.heap.size w w' := by
  obtain ⟨RES, HRES⟩ : ∃ RES, Hid (RES = (covs hs ps).getD m []) := ⟨_, hid rfl⟩
  rw [← HRES.out]
  have hb0 : ∀ o1 o2, Below w.heap.size w ((w.alloc o1).alloc o2) := fun o1 o2 => ((Below.refl _ _).alloc (Nat.le_refl _) _).alloc (by simp) _
  go_enter Tryz.func313, Tryz.ntmps313
  go_wp2_with fail
  obtain ⟨wy, HWY⟩ : ∃ wy, wy = ((w.alloc (.cells #[.slice a hs.length c, .iface 199 (.slice (some ⟨g, 0, none⟩) n cg)] 272)).alloc (.cells sec64 267)) := ⟨_, rfl⟩
  have hby := hb0 (.cells #[.slice a hs.length c, .iface 199 (.slice (some ⟨g, 0, none⟩) n cg)] 272) (.cells sec64 267)
  have hcx := (Cx.new w (.slice a hs.length c) (.iface 199 (.slice (some ⟨g, 0, none⟩) n cg)) 272).below (below_new _ (.cells sec64 267))
  have hrr := row_new' (w.alloc (.cells #[.slice a hs.length c, .iface 199 (.slice (some ⟨g, 0, none⟩) n cg)] 272)) sec64 267 (w.heap.size + 1) (by simp)
  rw [← HWY] at hby hcx hrr
  go_loopw [6] (fun i wr => ∃ k : Nat, k ≤ hs.length ∧ i = .int .i64 ((k : Int) - 1) ∧ Hid (RES = (covs (hs.take k) ps).getD m []) ∧ wr = wy) (fun i _ => ((intOf i) + 1).toNat)
  case atStart => exact ⟨hs.length, Nat.le_refl _, rfl, by show _ = _; rw [List.take_length, HRES.out], by rw [HWY]; kernel_rfl⟩
  case round =>
    obtain ⟨k, hk, rfl, HK, rfl⟩ := hrel
    have q0 := hcx.c0
    have q1 := hcx.c1
    have HRR := hid hrr
    have HBY := hid hby
    clear hrr HWY
    rcases k with _ | j
    · have hpw := hp.below hby
      have hmp := fun k => meth_plate k (some ⟨g, 0, none⟩) n cg wr
      have hxl : RES.length = 64 := by rw [HK.out]; exact getD_len hp.len (by omega)
      have hxm : (RES.map (Value.int .u8)).toArray.size = 64 := by simp [hxl]
      have HI64 : Hid ((Tryz.prog.info? 267).map (·.size) = some (RES.map (Value.int .u8)).length) := by show _ = _; rw [List.length_map, hxl]; kernel_rfl
      have HKR : Hid (ps.getD m [] = RES) := HK.out.symm
      go_wp2_with fail
      refine (rd_plate g n cg m ps _ hpw hpl hn2 hm).mono ?_
      rw [HKR.out]
      rintro e w2 ⟨rfl, hb2⟩
      have hth := (HRR.out.below hb2).there (n := 64) (by kernel_rfl)
      have HB2 := hid (Below.then HBY.out (Nat.le_refl _) hb2)
      clear hb2 hpw hmp q0 q1
      go_wp2_with (with_reducible refine at_store 267 _ _ rfl ?_; refine wpList_store_mid rfl 267 _ _ rfl (w.heap.size + 1) 0 (RES.map (Value.int .u8)).toArray rfl rfl (by rw [hxm]; exact hth) (by rw [hxm]; kernel_rfl) (all_oneCell_toArray (ints_one RES)) ?_)
      refine bodyPost_ret (v := .tuple #[.agg (RES.map (Value.int .u8)).toArray, .bool true]) (results_cell1_tmp (p := 4) (u := 5) Tryz.results313 _ _ (w.heap.size + 1) 0 rfl (RES.map (Value.int .u8)) _ (World.rangeAt_setCells_same _ _ _ _ (by rw [List.length_map, hxl]; exact hth)) Tryz.underlying267 rfl HI64.out) rfl ⟨rfl, ?_⟩
      exact Go.below_setCells (by omega) _ _ _ HB2.out
    · have hj : j < hs.length := by omega
      obtain ⟨b, o, m0, x, rfl, hlb, hrg, HX⟩ := (h.below hby).at hj
      have hxl : x.length = 64 := h64 (m0, x) (by rw [HX.out]; simp [List.getD, hj])
      have hc0 := hrg 0 _ rfl
      rw [Nat.add_zero] at hc0
      have e1 : ((j + 1 : Nat) : Int) - 1 = (j : Int) := by omega
      rw [e1]
      clear e1
      by_cases hmm : m0 = (m : Int)
      · subst hmm
        have hmc : m < (covs (hs.take j) ps).length := by rw [covs_length]; omega
        have HKR : Hid (x = RES) := by
          show _ = _
          rw [HK.out, covs_take hs ps j hj, ← HX.out, Int.toNat_natCast]
          simp [List.getD, hmc]
        rw [HKR.out] at hrg hxl
        have hxm : (RES.map (Value.int .u8)).toArray.size = 64 := by simp [hxl]
        have HI64 : Hid ((Tryz.prog.info? 267).map (·.size) = some (RES.map (Value.int .u8)).length) := by show _ = _; rw [List.length_map, hxl]; kernel_rfl
        have HRG : Hid (wr.rangeAt b (o + j * 65 + 1) (RES.map (Value.int .u8))) := fun i v hv => by
          have := hrg (i + 1) v (by simpa using hv)
          rw [← this]; congr 2; omega
        have hth := HRR.out.there (n := 64) (by kernel_rfl)
        clear hrg
        go_wp2_with (first | (with_reducible refine at_load 267 _ rfl ?_; refine wpList_load_mid rfl 267 _ rfl b (o + j * 65 + 1) rfl (RES.map (Value.int .u8)) _ HRG.out Tryz.underlying267 rfl HI64.out ?_) | (with_reducible refine at_store 267 _ _ rfl ?_; refine wpList_store_mid rfl 267 _ _ rfl (w.heap.size + 1) 0 (RES.map (Value.int .u8)).toArray rfl rfl (by rw [hxm]; exact hth) (by rw [hxm]; kernel_rfl) (all_oneCell_toArray (ints_one RES)) ?_))
        refine bodyPost_ret (v := .tuple #[.agg (RES.map (Value.int .u8)).toArray, .bool true]) (results_cell1_tmp (p := 4) (u := 5) Tryz.results313 _ _ (w.heap.size + 1) 0 rfl (RES.map (Value.int .u8)) _ (World.rangeAt_setCells_same _ _ _ _ (by rw [List.length_map, hxl]; exact hth)) Tryz.underlying267 rfl HI64.out) rfl ⟨rfl, ?_⟩
        exact Go.below_setCells (by omega) _ _ _ HBY.out
      · have HK' : Hid (RES = (covs (hs.take j) ps).getD m []) := by
          show _ = _
          rw [HK.out, covs_take hs ps j hj, ← HX.out]
          have h0 : 0 ≤ m0 := hpos (m0, x) (by rw [HX.out]; simp [List.getD, hj])
          have hne : m0.toNat ≠ m := by omega
          simp [List.getD, List.getElem?_set_ne hne]
        clear hrg
        go_wp2
        go_roundw
        case rel => exact ⟨j, by omega, by go_num, HK', trivial⟩
        case measure => simp [intOf]
end Go.Proofs.YtnmaknnnmjfhkagGreatDoor

namespace Go.Proofs.YtnmaknnnmjfhkagGreatDoor
open Go.RowKit
set_option linter.unusedVariables false

theorem covs_all : ∀ (hs : List (Int × List Int)) (ps : List (List Int)), (∀ p ∈ hs, p.2.length = 64) → (∀ p ∈ ps, p.length = 64) → ∀ p ∈ covs hs ps, p.length = 64
  | [], ps, _, h => h
  | x :: r, ps, h1, h2 => covs_all r _ (fun p hp => h1 p (List.mem_cons_of_mem _ hp)) (fun p hp => by
    rcases List.mem_or_eq_of_mem_set hp with h3 | h3
    · exact h2 p h3
    · rw [h3]; exact h1 x (List.mem_cons_self ..))
theorem secs_covs : ∀ (ws : List (Int × ByteArray)) (ss : List ByteArray), secs (covs (hsOf ws) (ss.map nums)) = syncs ws ss
  | [], ss => by
    show (ss.map nums).map strOfNums = ss
    rw [List.map_map]
    exact List.map_id'' (fun s => strOfNums_nums s) ss
  | x :: r, ss => by
    have := secs_covs r (ss.set x.1.toNat x.2)
    rw [List.map_set] at this
    exact this

end Go.Proofs.YtnmaknnnmjfhkagGreatDoor
