import Derived.Test.YtnmaknnnmjfhkafGreatMgXCompact2
import Derived.BigQuiet
import Derived.Deep.QuietTactic
import Derived.Deep.RegionHeld3

set_option maxHeartbeats 16000000
set_option maxRecDepth 8000
namespace Go.Proofs.YtnmaknnnmjfhkafGreat
open Go.RowKit
set_option linter.unusedVariables false

theorem grown_trans {a b c : World} {r : Option Nat} (h : a.grownBy b r) (k : b.grownBy c r) : a.grownBy c r :=
  ⟨k.os.trans h.os, k.tape.trans h.tape, k.output.trans h.output, Nat.le_trans h.size k.size, fun i hi hr => (k.block i (Nat.lt_of_lt_of_le hi h.size) hr).trans (h.block i hi hr)⟩
theorem grown_of_below {a b : World} (r : Option Nat) (h : Below a.heap.size a b) : a.grownBy b r := ⟨h.os, h.tape, h.output, h.size, fun i hi _ => h.block i hi⟩
theorem grown_refl (a : World) (r : Option Nat) : a.grownBy a r := ⟨rfl, rfl, rfl, Nat.le_refl _, fun _ _ _ => rfl⟩
theorem grown_set {a b : World} {g : Nat} (h : a.grownBy b (some g)) (i : Nat) (v : Value) : a.grownBy (b.setCell ⟨g, i, none⟩ v) (some g) :=
  grown_trans h ⟨rfl, rfl, rfl, by simp [World.setCell], fun j _ hj => Below.heap_setCell _ _ _ _ (fun e => hj (by rw [e]))⟩
theorem grown_below {a b : World} {r : Option Nat} {B : Nat} (h : a.grownBy b r) (hB : B ≤ a.heap.size) (hr : ∀ g, r = some g → B ≤ g) : Below B a b :=
  ⟨h.os, h.tape, h.output, h.size, fun k hk => h.block k (by omega) (fun e => by have := hr k e.symm; omega)⟩
theorem Row.grown {w w' : World} {g : Nat} {cs : List Value} {r : Option Nat} (h : Row w g cs) (hg : w.grownBy w' r) (hn : some g ≠ r) : Row w' g cs :=
  ⟨Nat.lt_of_lt_of_le h.lt hg.size, fun i v hv => (World.cell?_of_block (a := ⟨g, i, none⟩) (hg.block g h.lt hn)).trans (h.cell i v hv), fun i hi => (World.frozen?_of_block (a := ⟨g, i, none⟩) (hg.block g h.lt hn)).trans (h.froz i hi)⟩
/-- A slice whose cells the call owns: nothing, or a row from its beginning. -/
def OwnS (w : World) (a : Option Addr) (cs : List Value) : Prop := cs = [] ∨ ∃ g, a = some ⟨g, 0, none⟩ ∧ Row w g cs
/-- The block that a slice of so many elements lies in. -/
def blk (a : Option Addr) (n : Nat) : Option Nat := if n = 0 then none else a.map (·.block)
theorem blk_zero (a : Option Addr) : blk a 0 = none := rfl
theorem blk_pos (b o : Nat) (n : Nat) (h : n ≠ 0) : blk (some ⟨b, o, none⟩) n = some b := by simp [blk, h]

/-- A disk whose two lists the call owns. -/
structure OwnD (w : World) (a : Option Addr) (ss : List ByteArray) (a' : Option Addr) (ws : List (Int × ByteArray)) : Prop where
  s : OwnS w a (ss.map Value.string)
  p : OwnS w a' (wcells ws)
  ne : blk a ss.length = none ∨ blk a' ws.length = none ∨ blk a ss.length ≠ blk a' ws.length
theorem OwnS.below {w w' : World} {a : Option Addr} {cs : List Value} (h : OwnS w a cs) (hb : Below w.heap.size w w') : OwnS w' a cs := by
  rcases h with h | ⟨g, h1, h2⟩
  · exact .inl h
  · exact .inr ⟨g, h1, h2.below hb⟩
theorem OwnS.grown {w w' : World} {a : Option Addr} {cs : List Value} {r : Option Nat} (h : OwnS w a cs) (hg : w.grownBy w' r) (hn : ∀ g, a = some ⟨g, 0, none⟩ → cs ≠ [] → some g ≠ r) : OwnS w' a cs := by
  by_cases hc : cs = []
  · exact .inl hc
  · obtain ⟨g, h1, h2⟩ := h.resolve_left hc
    exact .inr ⟨g, h1, h2.grown hg (hn g h1 hc)⟩
theorem OwnS.lt {w : World} {a : Option Addr} {cs : List Value} (h : OwnS w a cs) (n : Nat) (hn : n ≠ 0 → cs ≠ []) : ∀ g, blk a n = some g → g < w.heap.size := fun g hg => by
  by_cases h0 : n = 0
  · subst h0; cases hg
  · obtain ⟨g', rfl, h2⟩ := h.resolve_left (hn h0)
    rw [blk_pos g' 0 n h0] at hg
    cases hg
    exact h2.lt
theorem OwnD.below {w w' : World} {a a' : Option Addr} {ss : List ByteArray} {ws : List (Int × ByteArray)} (h : OwnD w a ss a' ws) (hb : Below w.heap.size w w') : OwnD w' a ss a' ws := ⟨h.s.below hb, h.p.below hb, h.ne⟩
theorem OwnS.strs {w : World} {a : Option Addr} {ss : List ByteArray} (h : OwnS w a (ss.map Value.string)) : Strs w a ss := by
  rcases h with h | ⟨g, rfl, h2⟩
  · exact .inl (by simpa using h)
  · exact h2.strs
theorem OwnS.wrs {w : World} {a : Option Addr} {ws : List (Int × ByteArray)} (h : OwnS w a (wcells ws)) : Wrs w a ws := by
  rcases h with h | ⟨g, rfl, h2⟩
  · exact .inl (by have := congrArg List.length h; rw [wcells_length, List.length_nil] at this; exact List.eq_nil_of_length_eq_zero (by omega))
  · exact h2.wrs

theorem strs_ne {ss : List ByteArray} (h : ss.length ≠ 0) : ss.map Value.string ≠ [] := fun e => h (by have := congrArg List.length e; simpa using this)
theorem wcells_ne {ws : List (Int × ByteArray)} (h : ws.length ≠ 0) : wcells ws ≠ [] := fun e => h (by have := congrArg List.length e; rw [wcells_length, List.length_nil] at this; omega)
theorem ne_of_strs {ss : List ByteArray} (h : ss.map Value.string ≠ []) : ss.length ≠ 0 := fun e => h (by rw [List.eq_nil_of_length_eq_zero e]; rfl)
theorem ne_of_wcells {ws : List (Int × ByteArray)} (h : wcells ws ≠ []) : ws.length ≠ 0 := fun e => h (by rw [List.eq_nil_of_length_eq_zero e]; rfl)

end Go.Proofs.YtnmaknnnmjfhkafGreat

namespace Go.Proofs.YtnmaknnnmjfhkafGreat
open Go.RowKit
set_option maxRecDepth 4000
set_option linter.unusedVariables false

/-- The decimal digits of a number, as bytes. -/
def digs (k : Nat) : List Int := if h : k = 0 then [] else digs (k / 10) ++ [48 + ((k % 10 : Nat) : Int)]
theorem digs_zero : digs 0 = [] := by unfold digs; simp
theorem digs_pos (k : Nat) (h : k ≠ 0) : digs k = digs (k / 10) ++ [48 + ((k % 10 : Nat) : Int)] := by
  conv => lhs; unfold digs
  simp [h]
theorem digs_length : ∀ (n k : Nat), k ≤ n → (digs k).length ≤ k
  | 0, k, h => by rw [show k = 0 by omega, digs_zero]; simp
  | n + 1, k, h => by
    by_cases hk : k = 0
    · rw [hk, digs_zero]; simp
    · rw [digs_pos k hk, List.length_append]
      have := digs_length n (k / 10) (by omega)
      simp; omega
/-- The text that marks a place. -/
def mtext (k : Nat) : ByteArray := ⟨#[109]⟩ ++ strOfNums (digs k)

set_option maxHeartbeats 16000000 in
theorem mark_text (k : Nat) (w : World) (h0 : 0 < k) (h1 : k ≤ 100000000) :
    Calls Tryz.prog 54 #[.int .i64 (k : Int)] w fun e w' => e = .returned (.string (mtext k)) ∧ Below w.heap.size w w' := by
  have hb1 := bytes1
  have h0' : (0 : Int) < (k : Int) := by omega
  have HD0 := hid (digs_length k k (Nat.le_refl _))
  go_enter Tryz.func54, Tryz.ntmps54
  go_wp2
  go_loopw [0, 3] (fun x o wr => ∃ (j : Nat) (r : List Int), j ≤ 100000000 ∧ r.length ≤ 100000000 ∧ x = .int .i64 (j : Int) ∧ o = .string (strOfNums r) ∧ Hid (digs k = digs j ++ r) ∧ Below w.heap.size w wr) (fun x _ _ => (intOf x).toNat)
  case atStart => exact ⟨k, [], h1, by simp, rfl, rfl, hid (by simp), Below.refl _ _⟩
  case round =>
    obtain ⟨j, r, hj, hr, rfl, rfl, HJ, hbel⟩ := hrel
    by_cases hp : 0 < j
    · have hp' : (0 : Int) < (j : Int) := by omega
      have hz1 : (strOfNums [48 + (j : Int) % 10]).size ≤ 1 := by rw [strOfNums_size]; simp
      have hz2 : (strOfNums r).size ≤ 100000000 := by rw [strOfNums_size]; exact hr
      have HN : Hid (digs k = digs (j / 10) ++ ((48 + (j : Int) % 10) :: r)) := by
        show _ = _
        rw [HJ.out, digs_pos j (by omega)]
        simp
      have HLN : Hid (((48 + (j : Int) % 10) :: r).length ≤ 100000000) := by
        have h1 := congrArg List.length HN.out
        have h2 := HD0.out
        rw [List.length_append] at h1
        show _ ≤ _
        omega
      go_wp2
      go_roundw
      case rel => exact ⟨j / 10, _, by omega, HLN.out, by go_num, by rw [← strOfNums_append]; rfl, HN, hbel.alloc hbel.size _⟩
      case measure => simp [intOf]; omega
    · have hz2 : (strOfNums r).size ≤ 100000000 := by rw [strOfNums_size]; exact hr
      have hj0 : Hid (j = 0) := by show _ = _; omega
      have hnp : ¬ ((0 : Int) < (j : Int)) := by omega
      go_wp2
      go_ret
      refine ⟨ret_str ?_, hbel⟩
      unfold mtext
      rw [HJ.out, hj0.out, digs_zero]
      rfl
theorem mark_text' (ki : Int) (k : Nat) (hki : ki = (k : Int)) (w : World) (h0 : 0 < k) (h1 : k ≤ 100000000) :
    Calls Tryz.prog 54 #[.int .i64 ki] w fun e w' => e = .returned (.string (mtext k)) ∧ Below w.heap.size w w' := by
  subst hki; exact mark_text k w h0 h1
end Go.Proofs.YtnmaknnnmjfhkafGreat
