import Derived.Test.YtnmaknnnmjfhkafGreatDoorMgXForged3
import Derived.Test.YtnmaknnnmjfhkafGreatDoorProg
import Derived.Test.YtnmaknnnmjfhkafGreatDoorMgXForged0
import Derived.WalkKit
import Derived.WalkSpells
import Derived.WalkLawsBesides
import Derived.Outline
import Derived.Test.YtnmaknnnmjfhkafGreatDoorQxForgedRow
import Derived.BigQuiet
import Derived.Deep.QuietTactic
import Derived.Deep.RegionHeld3

set_option maxHeartbeats 16000000
set_option maxRecDepth 8000
namespace Go.Proofs.YtnmaknnnmjfhkafGreatDoor
open Go.RowKit
set_option maxRecDepth 4000
set_option linter.unusedVariables false

@[reducible] def stV (a : Option Addr) (n c : Nat) : Value := .agg #[.slice a n c]
theorem bcell1 {W w1 : World} (hb : Below W.heap.size W w1) : (∀ b o, b < W.heap.size → w1.cell? ⟨b, o, none⟩ = W.cell? ⟨b, o, none⟩) ∧ (∀ b o, b < W.heap.size → w1.frozen? ⟨b, o, none⟩ = W.frozen? ⟨b, o, none⟩) :=
  ⟨fun b o h => hb.cell (p := ⟨b, o, none⟩) h, fun b o h => hb.frozen (p := ⟨b, o, none⟩) h⟩
set_option maxHeartbeats 16000000 in
theorem sz_state (a : Option Addr) (rs : List (ByteArray × ByteArray)) (c : Nat) (w : World) (h : Prs w a rs) (left : Int) (h0 : 0 ≤ left) (h1 : left ≤ 1048576) (hl : rs.length ≤ maxLen) (hs : ∀ s ∈ rs, s.1.size ≤ maxLen ∧ s.2.size ≤ maxLen) :
    Calls Tryz.prog 70 #[stV a rs.length c, .int .i64 left] w fun e w' => e = .returned (.int .i64 (szL (rs.length :: rs.flatMap prsz) left)) ∧ Below w.heap.size w w' := by
  have hb0 : ∀ o, Below w.heap.size w (w.alloc o) := fun o => (Below.refl _ _).alloc (Nat.le_refl _) _
  have hbd := szL_bd (rs.length :: rs.flatMap prsz) left (by omega)
  obtain ⟨x, HX⟩ : ∃ x, Hid (x = szL (rs.length :: rs.flatMap prsz) left) := ⟨_, hid rfl⟩
  rw [← HX.out] at hbd ⊢
  by_cases hx : x < 0
  · have hx1 : x = -1 := by omega
    have HX1 := hid hx1
    clear hbd hx1
    go_enter Tryz.func70, Tryz.ntmps70
    go_wp2_with fail
    refine (sz_prs a rs c left _ (h.below (hb0 _)) (by omega) (by omega) hl hs).mono ?_
    rw [← HX.out]
    rintro e w1 ⟨rfl, hb1⟩
    go_wp2
    go_ret
    exact ⟨ret_int HX1.out.symm, (hb0 _).trans (hb1.mono (by simp))⟩
  · clear hbd
    go_enter Tryz.func70, Tryz.ntmps70
    go_wp2_with fail
    refine (sz_prs a rs c left _ (h.below (hb0 _)) (by omega) (by omega) hl hs).mono ?_
    rw [← HX.out]
    rintro e w1 ⟨rfl, hb1⟩
    go_wp2
    go_ret
    exact ⟨rfl, (hb0 _).trans (hb1.mono (by simp))⟩

set_option maxHeartbeats 16000000 in
theorem to_state (a : Option Addr) (rs : List (ByteArray × ByteArray)) (c : Nat) (w : World) (h : Prs w a rs) (hl : rs.length ≤ 1048576) :
    Calls Tryz.prog 73 #[stV a rs.length c] w fun e w' => ∃ g, e = .returned (stV (some ⟨g, 0, none⟩) rs.length rs.length) ∧ w.heap.size ≤ g ∧ Row w' g (prcells rs) ∧ Below w.heap.size w w' := by
  have hb0 : ∀ o1 o2 o3, Below w.heap.size w (((w.alloc o1).alloc o2).alloc o3) := fun o1 o2 o3 => (((Below.refl _ _).alloc (Nat.le_refl _) _).alloc (by simp) _).alloc (by simp; omega) _
  go_enter Tryz.func73, Tryz.ntmps73
  go_wp2_with fail
  refine (to_prs a rs c _ (h.below (hb0 _ _ _)) hl).mono ?_
  rintro e w1 ⟨g, rfl, hg, hr1, hb1⟩
  have hB1 := (hb0 _ _ _).trans (hb1.mono (by simp; omega))
  have hs1 := hb1.size
  simp only [World.size_alloc] at hg hs1
  have c20 : w1.cell? ⟨w.heap.size + 1 + 1, 0, none⟩ = some (.slice none 0 0) := (hb1.cell (p := ⟨w.heap.size + 1 + 1, 0, none⟩) (by simp)).trans (by go_simp)
  have f20 : w1.frozen? ⟨w.heap.size + 1 + 1, 0, none⟩ = false := (hb1.frozen (p := ⟨w.heap.size + 1 + 1, 0, none⟩) (by simp)).trans (by go_simp)
  have c10 : w1.cell? ⟨w.heap.size + 1, 0, none⟩ = some (.slice none 0 0) := (hb1.cell (p := ⟨w.heap.size + 1, 0, none⟩) (by simp <;> omega)).trans (by go_simp)
  have f10 : w1.frozen? ⟨w.heap.size + 1, 0, none⟩ = false := (hb1.frozen (p := ⟨w.heap.size + 1, 0, none⟩) (by simp <;> omega)).trans (by go_simp)
  have HR1 := hid hr1
  have HBB := hid hB1
  clear hb1 hr1 hB1
  go_wp2
  refine bodyPost_ret (v := stV (some ⟨g, 0, none⟩) rs.length rs.length) (by simp [results, Tryz.results73, go_sem, c10]) rfl ⟨g, rfl, by omega, ?_, ?_⟩
  · exact (HR1.out.other _ (by show w.heap.size + 1 + 1 ≠ g; omega) _).other _ (by show w.heap.size + 1 ≠ g; omega) _
  · exact (HBB.out.setCell (by show w.heap.size ≤ w.heap.size + 1 + 1; omega) _).setCell (by show w.heap.size ≤ w.heap.size + 1; omega) _

set_option maxHeartbeats 16000000 in
theorem eq_state (a b : Option Addr) (rs : List (ByteArray × ByteArray)) (c d : Nat) (w : World) (h1 : Prs w a rs) (h2 : Prs w b rs) (hl : rs.length ≤ 1048576) :
    Calls Tryz.prog 82 #[stV a rs.length c, stV b rs.length d] w fun e w' => e = .returned (.bool true) ∧ Below w.heap.size w w' := by
  have hb0 : ∀ o1 o2, Below w.heap.size w ((w.alloc o1).alloc o2) := fun o1 o2 => ((Below.refl _ _).alloc (Nat.le_refl _) _).alloc (by simp) _
  go_enter Tryz.func82, Tryz.ntmps82
  go_wp2_with fail
  refine (eq_prs a b rs c d _ (h1.below (hb0 _ _)) (h2.below (hb0 _ _)) hl).mono ?_
  rintro e w1 ⟨rfl, hb1⟩
  have hB1 := (hb0 _ _).trans (hb1.mono (by simp; omega))
  clear hb1
  go_wp2
  go_ret
  exact ⟨rfl, hB1⟩
end Go.Proofs.YtnmaknnnmjfhkafGreatDoor

namespace Go.Proofs.YtnmaknnnmjfhkafGreatDoor
open Go.RowKit
set_option maxRecDepth 4000

theorem ret_str {a b : ByteArray} (h : a = b) : Ending.returned (.string a) = .returned (.string b) := by rw [h]
theorem bytes1 (w : World) (n : Int) : (convert 53 9 (.slice (some ⟨w.heap.size, 0, none⟩) 1 1)).run Tryz.prog (w.alloc (.cells #[.int .u8 n] 5)) = .ok (.string (strOfNums [n])) (w.alloc (.cells #[.int .u8 n] 5)) :=
  run_convert_bytes_arg (P := Tryz.prog) _ 53 5 Tryz.underlying53 Tryz.underlying5 w.heap.size 0 1 1 [n] rfl (fun i hi => by
    have : i = 0 := by omega
    subst this; simp) 9 Tryz.underlying9

end Go.Proofs.YtnmaknnnmjfhkafGreatDoor

namespace Go.Proofs.YtnmaknnnmjfhkafGreatDoor
open Go.RowKit
set_option linter.unusedVariables false

theorem grown_trans {a b c : World} {r : Option Nat} (h : a.grownBy b r) (k : b.grownBy c r) : a.grownBy c r :=
  ⟨k.os.trans h.os, k.tape.trans h.tape, k.output.trans h.output, Nat.le_trans h.size k.size, fun i hi hr => (k.block i (Nat.lt_of_lt_of_le hi h.size) hr).trans (h.block i hi hr)⟩
theorem grown_of_below {a b : World} (r : Option Nat) (h : Below a.heap.size a b) : a.grownBy b r := ⟨h.os, h.tape, h.output, h.size, fun i hi _ => h.block i hi⟩
theorem grown_refl (a : World) (r : Option Nat) : a.grownBy a r := ⟨rfl, rfl, rfl, Nat.le_refl _, fun _ _ _ => rfl⟩
theorem grown_set {a b : World} {g : Nat} (h : a.grownBy b (some g)) (i : Nat) (v : Value) : a.grownBy (b.setCell ⟨g, i, none⟩ v) (some g) :=
  grown_trans h ⟨rfl, rfl, rfl, by simp [World.setCell], fun j _ hj => Below.heap_setCell _ _ _ _ (fun e => hj (by rw [e]))⟩
theorem grown_below {a b : World} {r : Option Nat} {B : Nat} (h : a.grownBy b r) (hB : B ≤ a.heap.size) (hr : ∀ g, r = some g → B ≤ g) : Below B a b :=
  ⟨h.os, h.tape, h.output, h.size, fun k hk => h.block k (by omega) (fun e => by have := hr k e.symm; omega)⟩
theorem Row.grown {w w' : World} {g : Nat} {cs : List Value} {r : Option Nat} (h : Row w g cs) (hg : w.grownBy w' r) (hn : some g ≠ r) : Row w' g cs :=
  ⟨Nat.lt_of_lt_of_le h.lt hg.size, fun i v hv => (World.cell?_of_block (a := ⟨g, i, none⟩) (hg.block g h.lt hn)).trans (h.cell i v hv), fun i hi => (World.frozen?_of_block (a := ⟨g, i, none⟩) (hg.block g h.lt hn)).trans (h.froz i hi)⟩
/-- A slice whose cells the call owns: nothing, or a row from its beginning. -/
def OwnS (w : World) (a : Option Addr) (cs : List Value) : Prop := cs = [] ∨ ∃ g, a = some ⟨g, 0, none⟩ ∧ Row w g cs
/-- The block that a slice of so many elements lies in. -/
def blk (a : Option Addr) (n : Nat) : Option Nat := if n = 0 then none else a.map (·.block)
theorem blk_zero (a : Option Addr) : blk a 0 = none := rfl
theorem blk_pos (b o : Nat) (n : Nat) (h : n ≠ 0) : blk (some ⟨b, o, none⟩) n = some b := by simp [blk, h]

/-- A disk whose two lists the call owns. -/
structure OwnD (w : World) (a : Option Addr) (ss : List ByteArray) (a' : Option Addr) (ws : List (Int × ByteArray)) : Prop where
  s : OwnS w a (ss.map Value.string)
  p : OwnS w a' (wcells ws)
  ne : blk a ss.length = none ∨ blk a' ws.length = none ∨ blk a ss.length ≠ blk a' ws.length
theorem OwnS.below {w w' : World} {a : Option Addr} {cs : List Value} (h : OwnS w a cs) (hb : Below w.heap.size w w') : OwnS w' a cs := by
  rcases h with h | ⟨g, h1, h2⟩
  · exact .inl h
  · exact .inr ⟨g, h1, h2.below hb⟩
theorem OwnS.grown {w w' : World} {a : Option Addr} {cs : List Value} {r : Option Nat} (h : OwnS w a cs) (hg : w.grownBy w' r) (hn : ∀ g, a = some ⟨g, 0, none⟩ → cs ≠ [] → some g ≠ r) : OwnS w' a cs := by
  by_cases hc : cs = []
  · exact .inl hc
  · obtain ⟨g, h1, h2⟩ := h.resolve_left hc
    exact .inr ⟨g, h1, h2.grown hg (hn g h1 hc)⟩
theorem OwnS.lt {w : World} {a : Option Addr} {cs : List Value} (h : OwnS w a cs) (n : Nat) (hn : n ≠ 0 → cs ≠ []) : ∀ g, blk a n = some g → g < w.heap.size := fun g hg => by
  by_cases h0 : n = 0
  · subst h0; cases hg
  · obtain ⟨g', rfl, h2⟩ := h.resolve_left (hn h0)
    rw [blk_pos g' 0 n h0] at hg
    cases hg
    exact h2.lt
theorem OwnD.below {w w' : World} {a a' : Option Addr} {ss : List ByteArray} {ws : List (Int × ByteArray)} (h : OwnD w a ss a' ws) (hb : Below w.heap.size w w') : OwnD w' a ss a' ws := ⟨h.s.below hb, h.p.below hb, h.ne⟩
theorem OwnS.strs {w : World} {a : Option Addr} {ss : List ByteArray} (h : OwnS w a (ss.map Value.string)) : Strs w a ss := by
  rcases h with h | ⟨g, rfl, h2⟩
  · exact .inl (by simpa using h)
  · exact h2.strs
theorem OwnS.wrs {w : World} {a : Option Addr} {ws : List (Int × ByteArray)} (h : OwnS w a (wcells ws)) : Wrs w a ws := by
  rcases h with h | ⟨g, rfl, h2⟩
  · exact .inl (by have := congrArg List.length h; rw [wcells_length, List.length_nil] at this; exact List.eq_nil_of_length_eq_zero (by omega))
  · exact h2.wrs

theorem strs_ne {ss : List ByteArray} (h : ss.length ≠ 0) : ss.map Value.string ≠ [] := fun e => h (by have := congrArg List.length e; simpa using this)
theorem wcells_ne {ws : List (Int × ByteArray)} (h : ws.length ≠ 0) : wcells ws ≠ [] := fun e => h (by have := congrArg List.length e; rw [wcells_length, List.length_nil] at this; omega)
theorem ne_of_strs {ss : List ByteArray} (h : ss.map Value.string ≠ []) : ss.length ≠ 0 := fun e => h (by rw [List.eq_nil_of_length_eq_zero e]; rfl)
theorem ne_of_wcells {ws : List (Int × ByteArray)} (h : wcells ws ≠ []) : ws.length ≠ 0 := fun e => h (by rw [List.eq_nil_of_length_eq_zero e]; rfl)

end Go.Proofs.YtnmaknnnmjfhkafGreatDoor
