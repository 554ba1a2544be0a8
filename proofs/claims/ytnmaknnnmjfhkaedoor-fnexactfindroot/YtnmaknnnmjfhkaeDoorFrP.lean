import Derived.Test.YtnmaknnnmjfhkaeDoorRpP
import Derived.Test.YtnmaknnnmjfhkaeDoorRt
namespace Go.Proofs.YtnmaknnnmjfhkaeDoor
open Go.RowKit
set_option maxRecDepth 4000
set_option linter.unusedVariables false
set_option linter.unusedSimpArgs false
abbrev RtT := Int × Int × Int × Int
/-- Half and First out of a root's Part. -/
def ptH (p : ByteArray) : Int := numOf ((nums p).take 1)
def ptF (p : ByteArray) : Int := numOf (((nums p).drop 1).take 4)
/-- The root that counts in a sector. -/
def rootOf (s : ByteArray) (a n : Int) : Option RtT :=
  match rpRes s n with
  | none => none
  | some (_, l, m, p) => if p.size = 5 ∧ rtForm m (ptH p) (ptF p) l n = s ∧ m % 2 = a then some (m, ptH p, ptF p, l) else none
theorem rpRes_some {s : ByteArray} {n k l m : Int} {p : ByteArray} (h : rpRes s n = some (k, l, m, p)) : s.size = 64 ∧ formOf k l m p n = s ∧ 1 ≤ m ∧ m ≤ 1000000000 ∧ 1 ≤ l ∧ l ≤ 60000 ∧ p.size ≤ 64 := by
  unfold rpRes at h
  split at h
  · rename_i hh
    obtain ⟨h1, h2, h3, h4, h5⟩ := hh
    simp only [Option.some.injEq, Prod.mk.injEq] at h
    obtain ⟨rfl, rfl, rfl, rfl⟩ := h
    refine ⟨h3, h5, ?_⟩
    have hok : pageOk (rpK (s.extract n.toNat 64)) (rpL (s.extract n.toNat 64)) (rpM (s.extract n.toNat 64)) (rpP (s.extract n.toNat 64)) n = true := by
      cases hc : pageOk (rpK (s.extract n.toNat 64)) (rpL (s.extract n.toNat 64)) (rpM (s.extract n.toNat 64)) (rpP (s.extract n.toNat 64)) n with
      | true => rfl
      | false =>
        exfalso
        unfold formOf at h5
        rw [hc, if_neg (by simp)] at h5
        rw [← h5] at h3
        exact absurd h3 (by decide)
    have hd := of_decide_eq_true (by unfold pageOk at hok; exact hok)
    omega
  · cases h
theorem rootOf_turn {s : ByteArray} {a n : Int} {x : RtT} (h : rootOf s a n = some x) : 1 ≤ x.1 := by
  unfold rootOf at h
  split at h
  · cases h
  · rename_i k l m p hp
    split at h
    · simp only [Option.some.injEq] at h
      subst h
      exact (rpRes_some hp).2.2.1
    · cases h
/-- The better of two roots. -/
def rtMax (b : RtT) (o : Option RtT) : RtT := match o with
  | none => b
  | some r => if b.1 < r.1 then r else b
/-- What FindRoot finds in the sectors 0 and 1. -/
def frOf (s0 s1 : ByteArray) (n : Int) : RtT := rtMax (rtMax (0, 0, 1, 0) (rootOf s0 0 n)) (rootOf s1 1 n)
def rtZ : RtT := (0, 0, 0, 0)
/-- As the program goes about it. -/
def rtStep (b r : RtT) : RtT := if b.1 < r.1 then r else b
theorem fr_eq (s0 s1 : ByteArray) (n : Int) : (if rtStep (rtStep rtZ ((rootOf s0 0 n).getD rtZ)) ((rootOf s1 1 n).getD rtZ) = rtZ then ((0, 0, 1, 0) : RtT) else rtStep (rtStep rtZ ((rootOf s0 0 n).getD rtZ)) ((rootOf s1 1 n).getD rtZ)) = frOf s0 s1 n := by
  unfold frOf
  cases h0 : rootOf s0 0 n with
  | none =>
    cases h1 : rootOf s1 1 n with
    | none => simp [rtStep, rtZ, rtMax]
    | some y =>
      have := rootOf_turn h1
      obtain ⟨y1, y2, y3, y4⟩ := y
      have hy : (0 : Int) < y1 := by show 0 < y1; have : 1 ≤ y1 := this; omega
      have hne : ¬ y1 = 0 := by omega
      simp [rtStep, rtZ, rtMax, hy, hne]
  | some x =>
    have hx1 := rootOf_turn h0
    obtain ⟨x1, x2, x3, x4⟩ := x
    have hx : (0 : Int) < x1 := by have : 1 ≤ x1 := hx1; omega
    have hnx : ¬ x1 = 0 := by omega
    cases h1 : rootOf s1 1 n with
    | none =>
      have hl : ¬ x1 < 0 := by omega
      simp [rtStep, rtZ, rtMax, hx, hnx, hl]
    | some y =>
      have hy1 := rootOf_turn h1
      obtain ⟨y1, y2, y3, y4⟩ := y
      have hny : ¬ y1 = 0 := by have : 1 ≤ y1 := hy1; omega
      by_cases hxy : x1 < y1
      · simp [rtStep, rtZ, rtMax, hx, hnx, hxy, hny]
      · simp [rtStep, rtZ, rtMax, hx, hnx, hxy, hny]
end Go.Proofs.YtnmaknnnmjfhkaeDoor
