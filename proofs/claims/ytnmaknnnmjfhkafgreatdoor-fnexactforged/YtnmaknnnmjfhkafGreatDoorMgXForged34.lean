import Derived.Test.YtnmaknnnmjfhkafGreatDoorMgXForged4
import Derived.Test.YtnmaknnnmjfhkafGreatDoorQxForgedWoB
import Derived.Test.YtnmaknnnmjfhkafGreatDoorQxForgedVStS
import Derived.Test.YtnmaknnnmjfhkafGreatDoorQxForgedVStI
import Derived.Test.YtnmaknnnmjfhkafGreatDoorQxForgedValid
import Derived.Test.YtnmaknnnmjfhkafGreatDoorMgXForged22
import Derived.Test.YtnmaknnnmjfhkafGreatDoorQxForgedVS

set_option maxHeartbeats 16000000
set_option maxRecDepth 8000
namespace Go.Proofs.YtnmaknnnmjfhkafGreatDoor
open Go.RowKit

/-- A variable of two cells. -/
structure Cx (w : World) (B : Nat) (v0 v1 : Value) : Prop where
  lt : B < w.heap.size
  c0 : w.cell? ⟨B, 0, none⟩ = some v0
  c1 : w.cell? ⟨B, 1, none⟩ = some v1
theorem Cx.below {w w' : World} {B : Nat} {v0 v1 : Value} (h : Cx w B v0 v1) (hb : Below w.heap.size w w') : Cx w' B v0 v1 :=
  ⟨Nat.lt_of_lt_of_le h.lt hb.size, (hb.cell (p := ⟨_, 0, none⟩) h.lt).trans h.c0, (hb.cell (p := ⟨_, 1, none⟩) h.lt).trans h.c1⟩
theorem Cx.grown {w w' : World} {B : Nat} {v0 v1 : Value} {r : Option Nat} (h : Cx w B v0 v1) (hg : w.grownBy w' r) (hn : some B ≠ r) : Cx w' B v0 v1 :=
  ⟨Nat.lt_of_lt_of_le h.lt hg.size, (World.cell?_of_block (a := ⟨B, 0, none⟩) (hg.block B h.lt hn)).trans h.c0, (World.cell?_of_block (a := ⟨B, 1, none⟩) (hg.block B h.lt hn)).trans h.c1⟩
theorem Cx.drew {w : World} {B : Nat} {v0 v1 : Value} (h : Cx w B v0 v1) : Cx w.drew B v0 v1 := ⟨h.lt, h.c0, h.c1⟩
theorem Cx.new (w : World) (v0 v1 : Value) (t : TypeId) : Cx (w.alloc (.cells #[v0, v1] t)) w.heap.size v0 v1 :=
  ⟨by simp, by rw [World.cell?_alloc_at _ _ _ _ rfl]; rfl, by rw [World.cell?_alloc_at _ _ _ _ rfl]; rfl⟩
theorem below_new (w : World) (o : Obj) : Below w.heap.size w (w.alloc o) := (Below.refl _ _).alloc (Nat.le_refl _) _
theorem Below.then {B : Nat} {a b c : World} (h : Below B a b) (hB : B ≤ a.heap.size) (k : Below b.heap.size b c) : Below B a c := h.trans (k.mono (Nat.le_trans hB h.size))
end Go.Proofs.YtnmaknnnmjfhkafGreatDoor

namespace Go.Proofs.YtnmaknnnmjfhkafGreatDoor
open Go.RowKit
set_option maxRecDepth 8000
set_option linter.unusedVariables false
set_option linter.unusedSimpArgs false

/-- A store that is nothing. -/
def noStore (x : Wo) : Bool := decide (x.W = 0 ∧ x.S = 0 ∧ x.L = 0 ∧ (x.T = 0 ∧ x.H = 0 ∧ x.F = 0 ∧ x.R = 0) ∧ x.U = 0 ∧ x.O = 0 ∧ x.rs.length = 0)
/-- The store that a world may have. -/
def itsStore (x : Wo) : Bool := if x.up = true then storeOk x.W x.S x.L x.T x.H x.F x.R x.U x.O x.rs && decide (x.W = x.w ∧ x.S = (x.ss.length : Int)) else noStore x
def pastOk (P : List (List (ByteArray × ByteArray))) : Bool := decide (1 ≤ P.length ∧ P.length ≤ 200) && P.all stateOk
def wrtOk (ts : List ByteArray) : Bool := decide (ts.length ≤ 2000) && ts.all fun s => decide (s.size = 64)
/-- A valid world. -/
def worldOk (x : Wo) : Bool := decide (1 ≤ x.w ∧ x.w ≤ 8) && (diskOk x.ss x.ws && (itsStore x && (pastOk x.P && wrtOk x.ts)))

set_option maxHeartbeats 16000000 in
theorem past_i (a : Option Addr) (P : List (List (ByteArray × ByteArray))) (c : Nat) (w : World) (h : Pst w a P) (hl : P.length ≤ 1048576) (hs : ∀ rs ∈ P, rs.length ≤ 1048576 ∧ ∀ s ∈ rs, s.1.size ≤ 1048576 ∧ s.2.size ≤ 1048576) :
    Calls Tryz.prog 75 #[.slice a P.length c] w fun e w' => e = .returned (.bool (pastOk P)) ∧ Below w.heap.size w w' := by
  by_cases h1 : P.length < 1
  · have e : pastOk P = false := by unfold pastOk; rw [decide_eq_false (by omega)]; rfl
    rw [e]
    have h1' : (P.length : Int) < 1 := by omega
    go_enter Tryz.func75, Tryz.ntmps75
    go_wp2
    go_ret
    exact ⟨rfl, Below.refl _ _⟩
  have h1' : ¬ (P.length : Int) < 1 := by omega
  by_cases h2 : 200 < P.length
  · have e : pastOk P = false := by unfold pastOk; rw [decide_eq_false (by omega)]; rfl
    rw [e]
    have h2' : (200 : Int) < (P.length : Int) := by omega
    go_enter Tryz.func75, Tryz.ntmps75
    go_wp2
    go_ret
    exact ⟨rfl, Below.refl _ _⟩
  have h2' : ¬ (200 : Int) < (P.length : Int) := by omega
  have HN : Hid (∀ k, k < P.length → stateOk (P.getD k []) = false → pastOk P = false) := fun k hk hx => by
    unfold pastOk
    have : P.all stateOk = false := List.all_eq_false.2 ⟨P.getD k [], by simp [List.getD, hk], by rw [hx]; simp⟩
    rw [this, Bool.and_false]
  have HY : Hid ((∀ k, k < P.length → stateOk (P.getD k []) = true) → pastOk P = true) := fun hx => by
    unfold pastOk
    rw [decide_eq_true (by omega), Bool.true_and]
    refine List.all_eq_true.2 fun rs hr => ?_
    obtain ⟨k, hk, rfl⟩ := List.getElem_of_mem hr
    have := hx k hk
    simpa [List.getD, hk] using this
  obtain ⟨B, HB⟩ : ∃ B, Hid (B = pastOk P) := ⟨_, hid rfl⟩
  rw [← HB.out] at HN HY ⊢
  clear h1 h2
  go_enter Tryz.func75, Tryz.ntmps75
  go_wp2
  go_loopw [4, 15] (fun _ i wr => ∃ k : Nat, k ≤ P.length ∧ i = .int .i64 (k : Int) ∧ Hid (∀ j, j < k → stateOk (P.getD j []) = true) ∧ Below w.heap.size w wr) (fun _ i _ => P.length - (intOf i).toNat)
  case atStart => exact ⟨0, Nat.zero_le _, rfl, fun j hj => absurd hj (by omega), Below.refl _ _⟩
  case round =>
    obtain ⟨k, hk, rfl, HA, hbel⟩ := hrel
    by_cases hlt : k < P.length
    · obtain ⟨b, o, p, cp, rfl, hb0, hc0, HP⟩ := (h.below hbel).at hlt
      obtain ⟨rs, HRS⟩ : ∃ rs, Hid (rs = P.getD k []) := ⟨_, hid rfl⟩
      rw [← HRS.out] at hc0 HP
      have hmem : rs ∈ P := by rw [HRS.out]; simp [List.getD, hlt]
      have HV := hid (fun ob => vstate_i p rs cp (wr.alloc ob) (HP.out.below (below_new _ _)) (hs rs hmem).1 (hs rs hmem).2)
      have HBL := hid hbel
      clear hbel
      cases hst : stateOk rs with
      | false =>
        rw [hst] at HV
        obtain rfl : B = false := HN.out k hlt (by rw [← HRS.out]; exact hst)
        go_wp2_with (go_at_call 109; refine (HV.out _).mono ?_; rintro e w2 ⟨rfl, hb2⟩)
        go_ret
        exact ⟨rfl, HBL.out.trans (((below_new wr _).trans (hb2.mono (by simp))).mono HBL.out.size)⟩
      | true =>
        rw [hst] at HV
        go_wp2_with (go_at_call 109; refine (HV.out _).mono ?_; rintro e w2 ⟨rfl, hb2⟩)
        go_roundw
        case rel => exact ⟨k + 1, by omega, by go_num, fun j hj => by
          by_cases e : j = k
          · subst e; rw [← HRS.out]; exact hst
          · exact HA.out j (by omega), HBL.out.trans (((below_new wr _).trans (hb2.mono (by simp))).mono HBL.out.size)⟩
        case measure => simp [intOf]; omega
    · obtain rfl : B = true := HY.out (fun j hj => HA.out j (by omega))
      go_wp2
      go_ret
      exact ⟨rfl, hbel⟩

set_option maxHeartbeats 16000000 in
theorem wrt_i (a : Option Addr) (ts : List ByteArray) (c : Nat) (w : World) (h : Strs w a ts) (hl : ts.length ≤ 1048576) (hs : ∀ s ∈ ts, s.size ≤ 1048576) :
    Calls Tryz.prog 76 #[.slice a ts.length c] w fun e w' => e = .returned (.bool (wrtOk ts)) ∧ Below w.heap.size w w' := by
  by_cases h2 : 2000 < ts.length
  · have e : wrtOk ts = false := by unfold wrtOk; rw [decide_eq_false (by omega)]; rfl
    rw [e]
    have h2' : (2000 : Int) < (ts.length : Int) := by omega
    go_enter Tryz.func76, Tryz.ntmps76
    go_wp2
    go_ret
    exact ⟨rfl, Below.refl _ _⟩
  have h2' : ¬ (2000 : Int) < (ts.length : Int) := by omega
  have HN : Hid (∀ k, k < ts.length → ¬ (ts.getD k ByteArray.empty).size = 64 → wrtOk ts = false) := fun k hk hx => by
    unfold wrtOk
    have : (ts.all fun s => decide (s.size = 64)) = false := List.all_eq_false.2 ⟨ts.getD k ByteArray.empty, by simp [List.getD, hk], by simpa using hx⟩
    rw [this, Bool.and_false]
  have HY : Hid ((∀ k, k < ts.length → (ts.getD k ByteArray.empty).size = 64) → wrtOk ts = true) := fun hx => by
    unfold wrtOk
    rw [decide_eq_true (by omega), Bool.true_and]
    refine List.all_eq_true.2 fun s hr => ?_
    obtain ⟨k, hk, rfl⟩ := List.getElem_of_mem hr
    have := hx k hk
    simpa [List.getD, hk] using this
  obtain ⟨B, HB⟩ : ∃ B, Hid (B = wrtOk ts) := ⟨_, hid rfl⟩
  rw [← HB.out] at HN HY ⊢
  clear h2
  go_enter Tryz.func76, Tryz.ntmps76
  go_wp2
  go_loopw [4, 10] (fun _ i wr => ∃ k : Nat, k ≤ ts.length ∧ i = .int .i64 (k : Int) ∧ Hid (∀ j, j < k → (ts.getD j ByteArray.empty).size = 64) ∧ wr = w) (fun _ i _ => ts.length - (intOf i).toNat)
  case atStart => exact ⟨0, Nat.zero_le _, rfl, fun j hj => absurd hj (by omega), rfl⟩
  case round =>
    obtain ⟨k, hk, rfl, HA, rfl⟩ := hrel
    by_cases hlt : k < ts.length
    · obtain ⟨b, o, s, rfl, hc, HS⟩ := h.at hlt
      have hsz := hs s (by rw [HS.out]; simp [List.getD, hlt])
      by_cases h64 : s.size = 64
      · have h64' : (s.size : Int) = 64 := by omega
        go_wp2
        go_roundw
        case rel => exact ⟨k + 1, by omega, by go_num, fun j hj => by
          by_cases e : j = k
          · subst e; rw [← HS.out]; exact h64
          · exact HA.out j (by omega), by first | rfl | trivial⟩
        case measure => simp [intOf]; omega
      · have h64' : ¬ (s.size : Int) = 64 := by omega
        obtain rfl : B = false := HN.out k hlt (by rw [← HS.out]; exact h64)
        go_wp2
        go_ret
        exact ⟨rfl, Below.refl _ _⟩
    · obtain rfl : B = true := HY.out (fun j hj => HA.out j (by omega))
      go_wp2
      go_ret
      exact ⟨rfl, Below.refl _ _⟩
end Go.Proofs.YtnmaknnnmjfhkafGreatDoor
