import Derived.Test.YtnmaknnnmjfhkaeDoorMgXScan9
import Derived.Test.YtnmaknnnmjfhkaeDoorQxScanStp

set_option maxHeartbeats 16000000
set_option maxRecDepth 8000
namespace Go.Proofs.YtnmaknnnmjfhkaeDoor
open Go.RowKit
set_option maxRecDepth 4000
set_option linter.unusedVariables false
set_option linter.unusedSimpArgs false
@[reducible] def rootV (t h f l : Int) : Value := .agg #[.int .i64 t, .int .i64 h, .int .i64 f, .int .i64 l]
/-- What a root may have as Half and First. -/
abbrev rtOk (h f : Int) : Prop := 0 ≤ h ∧ h ≤ 1 ∧ 1 ≤ f ∧ f ≤ 999999000
def rtPart (h f : Int) : ByteArray := strOfNums (be 1 h) ++ strOfNums (be 4 f)
def rtForm (t h f l n : Int) : ByteArray := if rtOk h f then formOf 4 l t (rtPart h f) n else ByteArray.empty

theorem half_i (h : Int) (w : World) : Calls Tryd.prog 100 #[.int .i64 h] w fun e w' => e = .returned (.bool (decide (0 ≤ h ∧ h ≤ 1))) ∧ w' = w := by
  have hh : decide (0 ≤ h ∧ h ≤ 1) = (decide (h = 0) || decide (h = 1)) := by rw [Bool.eq_iff_iff]; simp; omega
  rw [hh]
  go_enter Tryd.func100, Tryd.ntmps100
  by_cases h1 : h = 0
  · subst h1; go_wp2; go_ret; exact ⟨rfl, rfl⟩
  · by_cases h2 : h = 1
    · subst h2; go_wp2; go_ret; exact ⟨rfl, rfl⟩
    · go_wp2; go_ret; simp [h1, h2]
theorem first_i (f : Int) (w : World) : Calls Tryd.prog 101 #[.int .i64 f] w fun e w' => e = .returned (.bool (decide (1 ≤ f ∧ f ≤ 999999000))) ∧ w' = w := by
  go_enter Tryd.func101, Tryd.ntmps101
  by_cases h1 : 1 ≤ f <;> by_cases h2 : f ≤ 999999000 <;> (go_wp2; go_ret; simp [h1, h2])

theorem rootpage_s_no (t h f l n : Int) (w : World) (hno : ¬ rtOk h f) : Calls Tryd.prog 84 #[rootV t h f l, .int .i64 n] w fun e w' => e = .returned (.string ByteArray.empty) ∧ Below w.heap.size w w' := by
  have hb0 : ∀ o, Below w.heap.size w (w.alloc o) := fun o => (Below.refl _ _).alloc (Nat.le_refl _) _
  unfold rtOk at hno
  go_enter Tryd.func84, Tryd.ntmps84
  by_cases h1 : 0 ≤ h <;> by_cases h2 : h ≤ 1 <;> by_cases h3 : 1 ≤ f <;> by_cases h4 : f ≤ 999999000 <;> first | (exfalso; omega) | (clear hno; go_wp2; go_ret; exact ⟨rfl, hb0 _⟩)

set_option maxHeartbeats 16000000 in
theorem rootpage_s_ok (t h f l n : Int) (w : World) (hok : rtOk h f) : Calls Tryd.prog 84 #[rootV t h f l, .int .i64 n] w fun e w' => e = .returned (.string (formOf 4 l t (rtPart h f) n)) ∧ Below w.heap.size w w' := by
  obtain ⟨h1, h2, h3, h4⟩ := hok
  obtain ⟨A, hA⟩ : ∃ A, strOfNums (be 1 h) = A := ⟨_, rfl⟩
  obtain ⟨B, hB⟩ : ∃ B, strOfNums (be 4 f) = B := ⟨_, rfl⟩
  have zA : A.size = 1 := by rw [← hA, strOfNums_size, be_length]
  have zB : B.size = 4 := by rw [← hB, strOfNums_size, be_length]
  have HP : Hid (rtPart h f = A ++ B) := by show _ = _; unfold rtPart; rw [hA, hB]
  have numA := fun wx => num_s' h 1 1 rfl wx (by omega) (by omega) (by omega)
  have numB := fun wx => num_s' f 4 4 rfl wx (by omega) (by omega) (by omega)
  simp only [hA] at numA
  simp only [hB] at numB
  rw [HP.out]
  have hz : (A ++ B).size ≤ 1048576 := by simp only [ByteArray.size_append]; omega
  go_enter Tryd.func84, Tryd.ntmps84
  go_wp2_with fail
  have hS : w.heap.size < (w.alloc (.cells #[.int .i64 t, .int .i64 h, .int .i64 f, .int .i64 l] 49)).heap.size ∧ (w.alloc (.cells #[.int .i64 t, .int .i64 h, .int .i64 f, .int .i64 l] 49)).cell? ⟨w.heap.size, 0, none⟩ = some (.int .i64 t) ∧ (w.alloc (.cells #[.int .i64 t, .int .i64 h, .int .i64 f, .int .i64 l] 49)).cell? ⟨w.heap.size, 1, none⟩ = some (.int .i64 h) ∧ (w.alloc (.cells #[.int .i64 t, .int .i64 h, .int .i64 f, .int .i64 l] 49)).cell? ⟨w.heap.size, 2, none⟩ = some (.int .i64 f) ∧ (w.alloc (.cells #[.int .i64 t, .int .i64 h, .int .i64 f, .int .i64 l] 49)).cell? ⟨w.heap.size, 3, none⟩ = some (.int .i64 l) ∧ Below w.heap.size w (w.alloc (.cells #[.int .i64 t, .int .i64 h, .int .i64 f, .int .i64 l] 49)) := ⟨by simp, by simp, by simp, by simp, by simp, (Below.refl _ _).alloc (Nat.le_refl _) _⟩
  have HS := hide hS
  clear hS
  go_region_held3 (fun w' => w.heap.size < w'.heap.size ∧ w'.cell? ⟨w.heap.size, 0, none⟩ = some (.int .i64 t) ∧ w'.cell? ⟨w.heap.size, 1, none⟩ = some (.int .i64 h) ∧ w'.cell? ⟨w.heap.size, 2, none⟩ = some (.int .i64 f) ∧ w'.cell? ⟨w.heap.size, 3, none⟩ = some (.int .i64 l) ∧ Below w.heap.size w w')
    (first | assumption | exact keep4 (below_drewN (Below.refl _ _) 1) HS.out | exact keep4 (by assumption) (by assumption))
    (first | (go_at_call_of 71 h; refine (numA _).mono ?_; rintro e w2 ⟨rfl, hb2⟩) | (go_at_call_of 71 f; refine (numB _).mono ?_; rintro e w3 ⟨rfl, hb3⟩) | (go_at_call 36; refine (form_s_any 4 l t (A ++ B) n _ hz).mono ?_; rintro e w4 ⟨rfl, hb4⟩))
  rename_i hSl
  have hbl := hSl.2.2.2.2.2
  clear hSl
  go_wp2
  go_ret
  exact ⟨rfl, hbl⟩
theorem rootpage_s_any (t h f l n : Int) (w : World) : Calls Tryd.prog 84 #[rootV t h f l, .int .i64 n] w fun e w' => e = .returned (.string (rtForm t h f l n)) ∧ Below w.heap.size w w' := by
  unfold rtForm
  by_cases hok : rtOk h f
  · rw [if_pos hok]; exact rootpage_s_ok t h f l n w hok
  · rw [if_neg hok]; exact rootpage_s_no t h f l n w hok

end Go.Proofs.YtnmaknnnmjfhkaeDoor

namespace Go.Proofs.YtnmaknnnmjfhkaeDoor
open Go.RowKit
set_option maxRecDepth 4000
set_option linter.unusedVariables false
set_option linter.unusedSimpArgs false
abbrev RtT := Int × Int × Int × Int
/-- Half and First out of a root's Part. -/
def ptH (p : ByteArray) : Int := numOf ((nums p).take 1)
def ptF (p : ByteArray) : Int := numOf (((nums p).drop 1).take 4)
/-- The root that counts in a sector. -/
def rootOf (s : ByteArray) (a n : Int) : Option RtT :=
  match rpRes s n with
  | none => none
  | some (_, l, m, p) => if p.size = 5 ∧ rtForm m (ptH p) (ptF p) l n = s ∧ m % 2 = a then some (m, ptH p, ptF p, l) else none
theorem rpRes_some {s : ByteArray} {n k l m : Int} {p : ByteArray} (h : rpRes s n = some (k, l, m, p)) : s.size = 64 ∧ formOf k l m p n = s ∧ 1 ≤ m ∧ m ≤ 1000000000 ∧ 1 ≤ l ∧ l ≤ 60000 ∧ p.size ≤ 64 := by
  unfold rpRes at h
  split at h
  · rename_i hh
    obtain ⟨h1, h2, h3, h4, h5⟩ := hh
    simp only [Option.some.injEq, Prod.mk.injEq] at h
    obtain ⟨rfl, rfl, rfl, rfl⟩ := h
    refine ⟨h3, h5, ?_⟩
    have hok : pageOk (rpK (s.extract n.toNat 64)) (rpL (s.extract n.toNat 64)) (rpM (s.extract n.toNat 64)) (rpP (s.extract n.toNat 64)) n = true := by
      cases hc : pageOk (rpK (s.extract n.toNat 64)) (rpL (s.extract n.toNat 64)) (rpM (s.extract n.toNat 64)) (rpP (s.extract n.toNat 64)) n with
      | true => rfl
      | false =>
        exfalso
        unfold formOf at h5
        rw [hc, if_neg (by simp)] at h5
        rw [← h5] at h3
        exact absurd h3 (by decide)
    have hd := of_decide_eq_true (by unfold pageOk at hok; exact hok)
    omega
  · cases h
theorem rootOf_turn {s : ByteArray} {a n : Int} {x : RtT} (h : rootOf s a n = some x) : 1 ≤ x.1 := by
  unfold rootOf at h
  split at h
  · cases h
  · rename_i k l m p hp
    split at h
    · simp only [Option.some.injEq] at h
      subst h
      exact (rpRes_some hp).2.2.1
    · cases h
/-- The better of two roots. -/
def rtMax (b : RtT) (o : Option RtT) : RtT := match o with
  | none => b
  | some r => if b.1 < r.1 then r else b
/-- What FindRoot finds in the sectors 0 and 1. -/
def frOf (s0 s1 : ByteArray) (n : Int) : RtT := rtMax (rtMax (0, 0, 1, 0) (rootOf s0 0 n)) (rootOf s1 1 n)
def rtZ : RtT := (0, 0, 0, 0)
/-- As the program goes about it. -/
def rtStep (b r : RtT) : RtT := if b.1 < r.1 then r else b
theorem fr_eq (s0 s1 : ByteArray) (n : Int) : (if rtStep (rtStep rtZ ((rootOf s0 0 n).getD rtZ)) ((rootOf s1 1 n).getD rtZ) = rtZ then ((0, 0, 1, 0) : RtT) else rtStep (rtStep rtZ ((rootOf s0 0 n).getD rtZ)) ((rootOf s1 1 n).getD rtZ)) = frOf s0 s1 n := by
  unfold frOf
  cases h0 : rootOf s0 0 n with
  | none =>
    cases h1 : rootOf s1 1 n with
    | none => simp [rtStep, rtZ, rtMax]
    | some y =>
      have := rootOf_turn h1
      obtain ⟨y1, y2, y3, y4⟩ := y
      have hy : (0 : Int) < y1 := by show 0 < y1; have : 1 ≤ y1 := this; omega
      have hne : ¬ y1 = 0 := by omega
      simp [rtStep, rtZ, rtMax, hy, hne]
  | some x =>
    have hx1 := rootOf_turn h0
    obtain ⟨x1, x2, x3, x4⟩ := x
    have hx : (0 : Int) < x1 := by have : 1 ≤ x1 := hx1; omega
    have hnx : ¬ x1 = 0 := by omega
    cases h1 : rootOf s1 1 n with
    | none =>
      have hl : ¬ x1 < 0 := by omega
      simp [rtStep, rtZ, rtMax, hx, hnx, hl]
    | some y =>
      have hy1 := rootOf_turn h1
      obtain ⟨y1, y2, y3, y4⟩ := y
      have hny : ¬ y1 = 0 := by have : 1 ≤ y1 := hy1; omega
      by_cases hxy : x1 < y1
      · simp [rtStep, rtZ, rtMax, hx, hnx, hxy, hny]
      · simp [rtStep, rtZ, rtMax, hx, hnx, hxy, hny]
end Go.Proofs.YtnmaknnnmjfhkaeDoor
