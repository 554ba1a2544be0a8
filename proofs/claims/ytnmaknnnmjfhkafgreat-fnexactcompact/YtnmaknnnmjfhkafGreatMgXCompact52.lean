import Derived.Test.YtnmaknnnmjfhkafGreatMgXCompact51
import Derived.Test.YtnmaknnnmjfhkafGreatMkP
import Derived.Test.YtnmaknnnmjfhkafGreatStV
import Derived.Test.YtnmaknnnmjfhkafGreatMkB
import Derived.Test.YtnmaknnnmjfhkafGreatMkT
import Derived.Test.YtnmaknnnmjfhkafGreatOpA
import Derived.WalkKit
import Derived.WalkSpells
import Derived.WalkLawsBesides
import Derived.Outline
import Derived.BigQuiet
import Derived.Deep.QuietTactic
import Derived.Deep.RegionHeld3
import Derived.Test.YtnmaknnnmjfhkafGreatProg
import Derived.Test.YtnmaknnnmjfhkafGreatDnQ
import Derived.Test.YtnmaknnnmjfhkafGreatDk
import Derived.SliceStrings
import Derived.Deep.SlicePairs
import Derived.ProofKit
import Derived.ChangeOld
import Derived.Test.YtnmaknnnmjfhkafGreatPrA
import Derived.Deep.Slices
import Derived.Lib.SmallJoins

set_option maxHeartbeats 16000000
set_option maxRecDepth 8000
namespace Go.Proofs.YtnmaknnnmjfhkafGreat
open Go.RowKit
set_option linter.unusedVariables false
set_option linter.unusedSimpArgs false
set_option maxRecDepth 8000

set_option maxHeartbeats 16000000 in
theorem toroot' (t h f l : Int) (w : World) :
    Calls Tryz.prog 23 #[.agg #[.int .i64 t, .int .i64 h, .int .i64 f, .int .i64 l]] w fun e w' => e = .returned (.agg #[.int .i64 t, .int .i64 h, .int .i64 f, .int .i64 l]) ∧ Below w.heap.size w w' := by
  go_enter Tryz.func23, Tryz.ntmps23
  go_wp2
  exact bodyPost_ret (v := .agg #[.int .i64 t, .int .i64 h, .int .i64 f, .int .i64 l]) (by simp [results, Tryz.results23, go_sem]) rfl ⟨rfl, (((Below.refl _ _).alloc (Nat.le_refl _) _).alloc (by simp) _).alloc (by simp; omega) _⟩
set_option maxHeartbeats 16000000 in
theorem sz_store (W S L T H F R U O : Int) (a : Option Addr) (rs : List Pr) (c : Nat) (w : World) (h : Prs w a rs) (left : Int) (h0 : 0 ≤ left) (h1 : left ≤ 1048576) (hl : rs.length ≤ maxLen) (hs : ∀ s ∈ rs, s.1.size ≤ maxLen ∧ s.2.size ≤ maxLen) :
    Calls Tryz.prog 5 #[storeV W S L T H F R U O a rs.length c, .int .i64 left] w fun e w' => e = .returned (.int .i64 (szL (rs.length :: rs.flatMap prsz) left)) ∧ Below w.heap.size w w' := by
  unfold storeV
  have hb0 : ∀ o, Below w.heap.size w (w.alloc o) := fun o => (Below.refl _ _).alloc (Nat.le_refl _) _
  have hbd := szL_bd (rs.length :: rs.flatMap prsz) left (by omega)
  obtain ⟨x, HX⟩ : ∃ x, Hid (x = szL (rs.length :: rs.flatMap prsz) left) := ⟨_, hid rfl⟩
  rw [← HX.out] at hbd ⊢
  by_cases hx : x < 0
  · have hx1 : x = -1 := by omega
    have HX1 := hid hx1
    clear hbd hx1
    go_enter Tryz.func5, Tryz.ntmps5
    go_wp2_with fail
    refine (sz_state a rs c _ (h.below (hb0 _)) left (by omega) (by omega) hl hs).mono ?_
    rw [← HX.out]
    rintro e w1 ⟨rfl, hb1⟩
    go_wp2
    go_ret
    exact ⟨ret_int HX1.out.symm, (hb0 _).trans (hb1.mono (by simp))⟩
  · clear hbd
    go_enter Tryz.func5, Tryz.ntmps5
    go_wp2_with fail
    refine (sz_state a rs c _ (h.below (hb0 _)) left (by omega) (by omega) hl hs).mono ?_
    rw [← HX.out]
    rintro e w1 ⟨rfl, hb1⟩
    go_wp2
    go_ret
    exact ⟨rfl, (hb0 _).trans (hb1.mono (by simp))⟩

set_option maxHeartbeats 16000000 in
theorem to_store (W S L T H F R U O : Int) (a : Option Addr) (rs : List Pr) (c : Nat) (w : World) (h : Prs w a rs) (hl : rs.length ≤ 1048576) :
    Calls Tryz.prog 7 #[storeV W S L T H F R U O a rs.length c] w fun e w' => ∃ g, e = .returned (storeV W S L T H F R U O (some ⟨g, 0, none⟩) rs.length rs.length) ∧ w.heap.size ≤ g ∧ Row w' g (prcells rs) ∧ Below w.heap.size w w' := by
  unfold storeV
  have hb0 : ∀ o1 o2 o3, Below w.heap.size w (((w.alloc o1).alloc o2).alloc o3) := fun o1 o2 o3 => (((Below.refl _ _).alloc (Nat.le_refl _) _).alloc (by simp) _).alloc (by simp; omega) _
  go_enter Tryz.func7, Tryz.ntmps7
  go_wp2_with (first | (go_at_call 23; refine (toroot' T H F R _).mono ?_; rintro e w1 ⟨rfl, hb1⟩; have HB1 := hid ((hb0 _ _ _).trans (hb1.mono (by simp <;> omega))); have hl1 : w.heap.size + 1 + 1 < w1.heap.size := Nat.lt_of_lt_of_le (by simp) hb1.size; have w1p7 : w1.cell? ⟨w.heap.size, 7, none⟩ = some (.int .i64 U) := (hb1.cell (p := ⟨w.heap.size, 7, none⟩) (by simp <;> omega)).trans (by go_simp); have w1p8 : w1.cell? ⟨w.heap.size, 8, none⟩ = some (.int .i64 O) := (hb1.cell (p := ⟨w.heap.size, 8, none⟩) (by simp <;> omega)).trans (by go_simp); have w1p9 : w1.cell? ⟨w.heap.size, 9, none⟩ = some (.slice a rs.length c) := (hb1.cell (p := ⟨w.heap.size, 9, none⟩) (by simp <;> omega)).trans (by go_simp); have w1o0 : w1.cell? ⟨w.heap.size + 1 + 1, 0, none⟩ = some (.int .i64 W) := (hb1.cell (p := ⟨w.heap.size + 1 + 1, 0, none⟩) (by simp <;> omega)).trans (by go_simp); have w1of0 : w1.frozen? ⟨w.heap.size + 1 + 1, 0, none⟩ = false := (hb1.frozen (p := ⟨w.heap.size + 1 + 1, 0, none⟩) (by simp <;> omega)).trans (by go_simp); have w1o1 : w1.cell? ⟨w.heap.size + 1 + 1, 1, none⟩ = some (.int .i64 S) := (hb1.cell (p := ⟨w.heap.size + 1 + 1, 1, none⟩) (by simp <;> omega)).trans (by go_simp); have w1of1 : w1.frozen? ⟨w.heap.size + 1 + 1, 1, none⟩ = false := (hb1.frozen (p := ⟨w.heap.size + 1 + 1, 1, none⟩) (by simp <;> omega)).trans (by go_simp); have w1o2 : w1.cell? ⟨w.heap.size + 1 + 1, 2, none⟩ = some (.int .i64 L) := (hb1.cell (p := ⟨w.heap.size + 1 + 1, 2, none⟩) (by simp <;> omega)).trans (by go_simp); have w1of2 : w1.frozen? ⟨w.heap.size + 1 + 1, 2, none⟩ = false := (hb1.frozen (p := ⟨w.heap.size + 1 + 1, 2, none⟩) (by simp <;> omega)).trans (by go_simp); have w1o3 : w1.cell? ⟨w.heap.size + 1 + 1, 3, none⟩ = some (.int .i64 0) := (hb1.cell (p := ⟨w.heap.size + 1 + 1, 3, none⟩) (by simp <;> omega)).trans (by go_simp); have w1of3 : w1.frozen? ⟨w.heap.size + 1 + 1, 3, none⟩ = false := (hb1.frozen (p := ⟨w.heap.size + 1 + 1, 3, none⟩) (by simp <;> omega)).trans (by go_simp); have w1o4 : w1.cell? ⟨w.heap.size + 1 + 1, 4, none⟩ = some (.int .i64 0) := (hb1.cell (p := ⟨w.heap.size + 1 + 1, 4, none⟩) (by simp <;> omega)).trans (by go_simp); have w1of4 : w1.frozen? ⟨w.heap.size + 1 + 1, 4, none⟩ = false := (hb1.frozen (p := ⟨w.heap.size + 1 + 1, 4, none⟩) (by simp <;> omega)).trans (by go_simp); have w1o5 : w1.cell? ⟨w.heap.size + 1 + 1, 5, none⟩ = some (.int .i64 0) := (hb1.cell (p := ⟨w.heap.size + 1 + 1, 5, none⟩) (by simp <;> omega)).trans (by go_simp); have w1of5 : w1.frozen? ⟨w.heap.size + 1 + 1, 5, none⟩ = false := (hb1.frozen (p := ⟨w.heap.size + 1 + 1, 5, none⟩) (by simp <;> omega)).trans (by go_simp); have w1o6 : w1.cell? ⟨w.heap.size + 1 + 1, 6, none⟩ = some (.int .i64 0) := (hb1.cell (p := ⟨w.heap.size + 1 + 1, 6, none⟩) (by simp <;> omega)).trans (by go_simp); have w1of6 : w1.frozen? ⟨w.heap.size + 1 + 1, 6, none⟩ = false := (hb1.frozen (p := ⟨w.heap.size + 1 + 1, 6, none⟩) (by simp <;> omega)).trans (by go_simp); have w1o7 : w1.cell? ⟨w.heap.size + 1 + 1, 7, none⟩ = some (.int .i64 0) := (hb1.cell (p := ⟨w.heap.size + 1 + 1, 7, none⟩) (by simp <;> omega)).trans (by go_simp); have w1of7 : w1.frozen? ⟨w.heap.size + 1 + 1, 7, none⟩ = false := (hb1.frozen (p := ⟨w.heap.size + 1 + 1, 7, none⟩) (by simp <;> omega)).trans (by go_simp); have w1o8 : w1.cell? ⟨w.heap.size + 1 + 1, 8, none⟩ = some (.int .i64 0) := (hb1.cell (p := ⟨w.heap.size + 1 + 1, 8, none⟩) (by simp <;> omega)).trans (by go_simp); have w1of8 : w1.frozen? ⟨w.heap.size + 1 + 1, 8, none⟩ = false := (hb1.frozen (p := ⟨w.heap.size + 1 + 1, 8, none⟩) (by simp <;> omega)).trans (by go_simp); have w1o9 : w1.cell? ⟨w.heap.size + 1 + 1, 9, none⟩ = some (.slice none 0 0) := (hb1.cell (p := ⟨w.heap.size + 1 + 1, 9, none⟩) (by simp <;> omega)).trans (by go_simp); have w1of9 : w1.frozen? ⟨w.heap.size + 1 + 1, 9, none⟩ = false := (hb1.frozen (p := ⟨w.heap.size + 1 + 1, 9, none⟩) (by simp <;> omega)).trans (by go_simp); have w1r0 : w1.cell? ⟨w.heap.size + 1, 0, none⟩ = some (.int .i64 0) := (hb1.cell (p := ⟨w.heap.size + 1, 0, none⟩) (by simp <;> omega)).trans (by go_simp); have w1rf0 : w1.frozen? ⟨w.heap.size + 1, 0, none⟩ = false := (hb1.frozen (p := ⟨w.heap.size + 1, 0, none⟩) (by simp <;> omega)).trans (by go_simp); have w1r1 : w1.cell? ⟨w.heap.size + 1, 1, none⟩ = some (.int .i64 0) := (hb1.cell (p := ⟨w.heap.size + 1, 1, none⟩) (by simp <;> omega)).trans (by go_simp); have w1rf1 : w1.frozen? ⟨w.heap.size + 1, 1, none⟩ = false := (hb1.frozen (p := ⟨w.heap.size + 1, 1, none⟩) (by simp <;> omega)).trans (by go_simp); have w1r2 : w1.cell? ⟨w.heap.size + 1, 2, none⟩ = some (.int .i64 0) := (hb1.cell (p := ⟨w.heap.size + 1, 2, none⟩) (by simp <;> omega)).trans (by go_simp); have w1rf2 : w1.frozen? ⟨w.heap.size + 1, 2, none⟩ = false := (hb1.frozen (p := ⟨w.heap.size + 1, 2, none⟩) (by simp <;> omega)).trans (by go_simp); have w1r3 : w1.cell? ⟨w.heap.size + 1, 3, none⟩ = some (.int .i64 0) := (hb1.cell (p := ⟨w.heap.size + 1, 3, none⟩) (by simp <;> omega)).trans (by go_simp); have w1rf3 : w1.frozen? ⟨w.heap.size + 1, 3, none⟩ = false := (hb1.frozen (p := ⟨w.heap.size + 1, 3, none⟩) (by simp <;> omega)).trans (by go_simp); have w1r4 : w1.cell? ⟨w.heap.size + 1, 4, none⟩ = some (.int .i64 0) := (hb1.cell (p := ⟨w.heap.size + 1, 4, none⟩) (by simp <;> omega)).trans (by go_simp); have w1rf4 : w1.frozen? ⟨w.heap.size + 1, 4, none⟩ = false := (hb1.frozen (p := ⟨w.heap.size + 1, 4, none⟩) (by simp <;> omega)).trans (by go_simp); have w1r5 : w1.cell? ⟨w.heap.size + 1, 5, none⟩ = some (.int .i64 0) := (hb1.cell (p := ⟨w.heap.size + 1, 5, none⟩) (by simp <;> omega)).trans (by go_simp); have w1rf5 : w1.frozen? ⟨w.heap.size + 1, 5, none⟩ = false := (hb1.frozen (p := ⟨w.heap.size + 1, 5, none⟩) (by simp <;> omega)).trans (by go_simp); have w1r6 : w1.cell? ⟨w.heap.size + 1, 6, none⟩ = some (.int .i64 0) := (hb1.cell (p := ⟨w.heap.size + 1, 6, none⟩) (by simp <;> omega)).trans (by go_simp); have w1rf6 : w1.frozen? ⟨w.heap.size + 1, 6, none⟩ = false := (hb1.frozen (p := ⟨w.heap.size + 1, 6, none⟩) (by simp <;> omega)).trans (by go_simp); have w1r7 : w1.cell? ⟨w.heap.size + 1, 7, none⟩ = some (.int .i64 0) := (hb1.cell (p := ⟨w.heap.size + 1, 7, none⟩) (by simp <;> omega)).trans (by go_simp); have w1rf7 : w1.frozen? ⟨w.heap.size + 1, 7, none⟩ = false := (hb1.frozen (p := ⟨w.heap.size + 1, 7, none⟩) (by simp <;> omega)).trans (by go_simp); have w1r8 : w1.cell? ⟨w.heap.size + 1, 8, none⟩ = some (.int .i64 0) := (hb1.cell (p := ⟨w.heap.size + 1, 8, none⟩) (by simp <;> omega)).trans (by go_simp); have w1rf8 : w1.frozen? ⟨w.heap.size + 1, 8, none⟩ = false := (hb1.frozen (p := ⟨w.heap.size + 1, 8, none⟩) (by simp <;> omega)).trans (by go_simp); have w1r9 : w1.cell? ⟨w.heap.size + 1, 9, none⟩ = some (.slice none 0 0) := (hb1.cell (p := ⟨w.heap.size + 1, 9, none⟩) (by simp <;> omega)).trans (by go_simp); have w1rf9 : w1.frozen? ⟨w.heap.size + 1, 9, none⟩ = false := (hb1.frozen (p := ⟨w.heap.size + 1, 9, none⟩) (by simp <;> omega)).trans (by go_simp); clear hb1) | (go_at_call 24; have HX2 := ((((((HB1.out.setCell (p := ⟨w.heap.size + 1 + 1, 3, none⟩) (by show w.heap.size ≤ w.heap.size + 1 + 1; omega) (.int .i64 T)).setCell (p := ⟨w.heap.size + 1 + 1, 4, none⟩) (by show w.heap.size ≤ w.heap.size + 1 + 1; omega) (.int .i64 H)).setCell (p := ⟨w.heap.size + 1 + 1, 5, none⟩) (by show w.heap.size ≤ w.heap.size + 1 + 1; omega) (.int .i64 F)).setCell (p := ⟨w.heap.size + 1 + 1, 6, none⟩) (by show w.heap.size ≤ w.heap.size + 1 + 1; omega) (.int .i64 R)).setCell (p := ⟨w.heap.size + 1 + 1, 7, none⟩) (by show w.heap.size ≤ w.heap.size + 1 + 1; omega) (.int .i64 U)).setCell (p := ⟨w.heap.size + 1 + 1, 8, none⟩) (by show w.heap.size ≤ w.heap.size + 1 + 1; omega) (.int .i64 O)); refine (to_state a rs c _ (h.below HX2) hl).mono ?_; rintro e w2 ⟨g, rfl, hg, hr2, hb2⟩; have HB2 := hid (HX2.trans (hb2.mono HX2.size)); have HR2 := hid hr2; have hl2 : w.heap.size + 1 + 1 < w2.heap.size := Nat.lt_of_lt_of_le (by simpa using hl1) hb2.size; have hg2 : w.heap.size + 1 + 1 < g := Nat.lt_of_lt_of_le (by simpa using hl1) hg; have w2o0 : w2.cell? ⟨w.heap.size + 1 + 1, 0, none⟩ = some (.int .i64 W) := (hb2.cell (p := ⟨w.heap.size + 1 + 1, 0, none⟩) (by simp <;> omega)).trans (by go_simp); have w2of0 : w2.frozen? ⟨w.heap.size + 1 + 1, 0, none⟩ = false := (hb2.frozen (p := ⟨w.heap.size + 1 + 1, 0, none⟩) (by simp <;> omega)).trans (by go_simp); have w2o1 : w2.cell? ⟨w.heap.size + 1 + 1, 1, none⟩ = some (.int .i64 S) := (hb2.cell (p := ⟨w.heap.size + 1 + 1, 1, none⟩) (by simp <;> omega)).trans (by go_simp); have w2of1 : w2.frozen? ⟨w.heap.size + 1 + 1, 1, none⟩ = false := (hb2.frozen (p := ⟨w.heap.size + 1 + 1, 1, none⟩) (by simp <;> omega)).trans (by go_simp); have w2o2 : w2.cell? ⟨w.heap.size + 1 + 1, 2, none⟩ = some (.int .i64 L) := (hb2.cell (p := ⟨w.heap.size + 1 + 1, 2, none⟩) (by simp <;> omega)).trans (by go_simp); have w2of2 : w2.frozen? ⟨w.heap.size + 1 + 1, 2, none⟩ = false := (hb2.frozen (p := ⟨w.heap.size + 1 + 1, 2, none⟩) (by simp <;> omega)).trans (by go_simp); have w2o3 : w2.cell? ⟨w.heap.size + 1 + 1, 3, none⟩ = some (.int .i64 T) := (hb2.cell (p := ⟨w.heap.size + 1 + 1, 3, none⟩) (by simp <;> omega)).trans (by go_simp); have w2of3 : w2.frozen? ⟨w.heap.size + 1 + 1, 3, none⟩ = false := (hb2.frozen (p := ⟨w.heap.size + 1 + 1, 3, none⟩) (by simp <;> omega)).trans (by go_simp); have w2o4 : w2.cell? ⟨w.heap.size + 1 + 1, 4, none⟩ = some (.int .i64 H) := (hb2.cell (p := ⟨w.heap.size + 1 + 1, 4, none⟩) (by simp <;> omega)).trans (by go_simp); have w2of4 : w2.frozen? ⟨w.heap.size + 1 + 1, 4, none⟩ = false := (hb2.frozen (p := ⟨w.heap.size + 1 + 1, 4, none⟩) (by simp <;> omega)).trans (by go_simp); have w2o5 : w2.cell? ⟨w.heap.size + 1 + 1, 5, none⟩ = some (.int .i64 F) := (hb2.cell (p := ⟨w.heap.size + 1 + 1, 5, none⟩) (by simp <;> omega)).trans (by go_simp); have w2of5 : w2.frozen? ⟨w.heap.size + 1 + 1, 5, none⟩ = false := (hb2.frozen (p := ⟨w.heap.size + 1 + 1, 5, none⟩) (by simp <;> omega)).trans (by go_simp); have w2o6 : w2.cell? ⟨w.heap.size + 1 + 1, 6, none⟩ = some (.int .i64 R) := (hb2.cell (p := ⟨w.heap.size + 1 + 1, 6, none⟩) (by simp <;> omega)).trans (by go_simp); have w2of6 : w2.frozen? ⟨w.heap.size + 1 + 1, 6, none⟩ = false := (hb2.frozen (p := ⟨w.heap.size + 1 + 1, 6, none⟩) (by simp <;> omega)).trans (by go_simp); have w2o7 : w2.cell? ⟨w.heap.size + 1 + 1, 7, none⟩ = some (.int .i64 U) := (hb2.cell (p := ⟨w.heap.size + 1 + 1, 7, none⟩) (by simp <;> omega)).trans (by go_simp); have w2of7 : w2.frozen? ⟨w.heap.size + 1 + 1, 7, none⟩ = false := (hb2.frozen (p := ⟨w.heap.size + 1 + 1, 7, none⟩) (by simp <;> omega)).trans (by go_simp); have w2o8 : w2.cell? ⟨w.heap.size + 1 + 1, 8, none⟩ = some (.int .i64 O) := (hb2.cell (p := ⟨w.heap.size + 1 + 1, 8, none⟩) (by simp <;> omega)).trans (by go_simp); have w2of8 : w2.frozen? ⟨w.heap.size + 1 + 1, 8, none⟩ = false := (hb2.frozen (p := ⟨w.heap.size + 1 + 1, 8, none⟩) (by simp <;> omega)).trans (by go_simp); have w2o9 : w2.cell? ⟨w.heap.size + 1 + 1, 9, none⟩ = some (.slice none 0 0) := (hb2.cell (p := ⟨w.heap.size + 1 + 1, 9, none⟩) (by simp <;> omega)).trans (by go_simp); have w2of9 : w2.frozen? ⟨w.heap.size + 1 + 1, 9, none⟩ = false := (hb2.frozen (p := ⟨w.heap.size + 1 + 1, 9, none⟩) (by simp <;> omega)).trans (by go_simp); have w2r0 : w2.cell? ⟨w.heap.size + 1, 0, none⟩ = some (.int .i64 0) := (hb2.cell (p := ⟨w.heap.size + 1, 0, none⟩) (by simp <;> omega)).trans (by go_simp); have w2rf0 : w2.frozen? ⟨w.heap.size + 1, 0, none⟩ = false := (hb2.frozen (p := ⟨w.heap.size + 1, 0, none⟩) (by simp <;> omega)).trans (by go_simp); have w2r1 : w2.cell? ⟨w.heap.size + 1, 1, none⟩ = some (.int .i64 0) := (hb2.cell (p := ⟨w.heap.size + 1, 1, none⟩) (by simp <;> omega)).trans (by go_simp); have w2rf1 : w2.frozen? ⟨w.heap.size + 1, 1, none⟩ = false := (hb2.frozen (p := ⟨w.heap.size + 1, 1, none⟩) (by simp <;> omega)).trans (by go_simp); have w2r2 : w2.cell? ⟨w.heap.size + 1, 2, none⟩ = some (.int .i64 0) := (hb2.cell (p := ⟨w.heap.size + 1, 2, none⟩) (by simp <;> omega)).trans (by go_simp); have w2rf2 : w2.frozen? ⟨w.heap.size + 1, 2, none⟩ = false := (hb2.frozen (p := ⟨w.heap.size + 1, 2, none⟩) (by simp <;> omega)).trans (by go_simp); have w2r3 : w2.cell? ⟨w.heap.size + 1, 3, none⟩ = some (.int .i64 0) := (hb2.cell (p := ⟨w.heap.size + 1, 3, none⟩) (by simp <;> omega)).trans (by go_simp); have w2rf3 : w2.frozen? ⟨w.heap.size + 1, 3, none⟩ = false := (hb2.frozen (p := ⟨w.heap.size + 1, 3, none⟩) (by simp <;> omega)).trans (by go_simp); have w2r4 : w2.cell? ⟨w.heap.size + 1, 4, none⟩ = some (.int .i64 0) := (hb2.cell (p := ⟨w.heap.size + 1, 4, none⟩) (by simp <;> omega)).trans (by go_simp); have w2rf4 : w2.frozen? ⟨w.heap.size + 1, 4, none⟩ = false := (hb2.frozen (p := ⟨w.heap.size + 1, 4, none⟩) (by simp <;> omega)).trans (by go_simp); have w2r5 : w2.cell? ⟨w.heap.size + 1, 5, none⟩ = some (.int .i64 0) := (hb2.cell (p := ⟨w.heap.size + 1, 5, none⟩) (by simp <;> omega)).trans (by go_simp); have w2rf5 : w2.frozen? ⟨w.heap.size + 1, 5, none⟩ = false := (hb2.frozen (p := ⟨w.heap.size + 1, 5, none⟩) (by simp <;> omega)).trans (by go_simp); have w2r6 : w2.cell? ⟨w.heap.size + 1, 6, none⟩ = some (.int .i64 0) := (hb2.cell (p := ⟨w.heap.size + 1, 6, none⟩) (by simp <;> omega)).trans (by go_simp); have w2rf6 : w2.frozen? ⟨w.heap.size + 1, 6, none⟩ = false := (hb2.frozen (p := ⟨w.heap.size + 1, 6, none⟩) (by simp <;> omega)).trans (by go_simp); have w2r7 : w2.cell? ⟨w.heap.size + 1, 7, none⟩ = some (.int .i64 0) := (hb2.cell (p := ⟨w.heap.size + 1, 7, none⟩) (by simp <;> omega)).trans (by go_simp); have w2rf7 : w2.frozen? ⟨w.heap.size + 1, 7, none⟩ = false := (hb2.frozen (p := ⟨w.heap.size + 1, 7, none⟩) (by simp <;> omega)).trans (by go_simp); have w2r8 : w2.cell? ⟨w.heap.size + 1, 8, none⟩ = some (.int .i64 0) := (hb2.cell (p := ⟨w.heap.size + 1, 8, none⟩) (by simp <;> omega)).trans (by go_simp); have w2rf8 : w2.frozen? ⟨w.heap.size + 1, 8, none⟩ = false := (hb2.frozen (p := ⟨w.heap.size + 1, 8, none⟩) (by simp <;> omega)).trans (by go_simp); have w2r9 : w2.cell? ⟨w.heap.size + 1, 9, none⟩ = some (.slice none 0 0) := (hb2.cell (p := ⟨w.heap.size + 1, 9, none⟩) (by simp <;> omega)).trans (by go_simp); have w2rf9 : w2.frozen? ⟨w.heap.size + 1, 9, none⟩ = false := (hb2.frozen (p := ⟨w.heap.size + 1, 9, none⟩) (by simp <;> omega)).trans (by go_simp); clear hb2 hr2 HX2 hg))
  refine bodyPost_ret (v := .agg #[.int .i64 W, .int .i64 S, .int .i64 L, .int .i64 T, .int .i64 H, .int .i64 F, .int .i64 R, .int .i64 U, .int .i64 O, .slice (some ⟨g, 0, none⟩) rs.length rs.length]) (by simp [results, Tryz.results7, go_sem, w2r0, w2r1, w2r2, w2r3, w2r4, w2r5, w2r6, w2r7, w2r8, w2r9]) rfl ⟨g, rfl, by omega, ?_, ?_⟩
  · iterate 11 (refine Row.other ?_ _ (by first | (show w.heap.size + 1 + 1 ≠ g; omega) | (show w.heap.size + 1 ≠ g; omega)) _)
    exact HR2.out
  · iterate 11 (refine Below.setCell ?_ (by first | (show w.heap.size ≤ w.heap.size + 1 + 1; omega) | (show w.heap.size ≤ w.heap.size + 1; omega)) _)
    exact HB2.out

end Go.Proofs.YtnmaknnnmjfhkafGreat

namespace Go.Proofs.YtnmaknnnmjfhkafGreat
open Go.RowKit
set_option maxRecDepth 4000
set_option linter.unusedVariables false
set_option linter.unusedSimpArgs false

set_option maxHeartbeats 16000000 in
theorem held_prs (a : Option Addr) (n c k : Nat) (w : World) (h : OwnS w a (prcells (prmarks k n))) (hk : 0 < k) (hl : k + 2 * n ≤ 100000000) :
    Calls Tryz.prog 106 #[.slice a n c, .int .i64 (k : Int)] w fun e w' => e = .returned (.int .i64 ((k + 2 * n : Nat) : Int)) ∧ Below w.heap.size w w' := by
  rcases h with h | ⟨g, rfl, hrow⟩
  · have hn : n = 0 := by have := congrArg List.length h; rw [prcells_length, prmarks_length, List.length_nil] at this; omega
    subst hn
    go_enter Tryz.func106, Tryz.ntmps106
    go_wp2
    refine wp_loop_rounds 1 ?_
    rw [rounds_succ]
    go_wp2
    go_ret
    exact ⟨rfl, Below.refl _ _⟩
  · have HROW := hid hrow
    clear hrow
    go_enter Tryz.func106, Tryz.ntmps106
    go_wp2
    go_loopw [1, 5] (fun x i wr => ∃ j m : Nat, j ≤ n ∧ i = .int .i64 (j : Int) ∧ x = .int .i64 (m : Int) ∧ Hid (m = k + 2 * j) ∧ Below w.heap.size w wr) (fun _ i _ => n - (intOf i).toNat)
    case atStart => exact ⟨0, k, Nat.zero_le _, rfl, rfl, hid rfl, Below.refl _ _⟩
    case round =>
      obtain ⟨j, m, hj, rfl, rfl, HM, hbel⟩ := hrel
      have HR := hid (HROW.out.below hbel)
      have HB := hid hbel
      clear hbel
      by_cases hlt : j < n
      · have hmj : (m : Int) ≤ 99999998 := by have := HM.out; omega
        have hmj0 : (0 : Int) < (m : Int) := by have := HM.out; omega
        have hj0 : (0 : Int) ≤ (j : Int) := by omega
        have hj1 : (j : Int) < (n : Int) := by omega
        have hat := prcells_at (prmarks k n) j (by rw [prmarks_length]; exact hlt)
        have hgd : (prmarks k n).getD j (ByteArray.empty, ByteArray.empty) = prm m := by rw [HM.out]; simp [prmarks, List.getD, hlt]
        rw [hgd] at hat
        have HC : Hid (wr.cell? ⟨g, j * 2, none⟩ = some (.string (mtext m)) ∧ wr.cell? ⟨g, j * 2 + 1, none⟩ = some (.string (mtext (m + 1)))) := ⟨HR.out.cell _ _ hat.1, HR.out.cell _ _ hat.2⟩
        have lt1 : g < wr.heap.size := HR.out.lt
        clear hat hgd
        go_wp2_with fail
        go_region_held3 (fun w' => w'.cell? ⟨g, j * 2, none⟩ = some (.string (mtext m)) ∧ w'.cell? ⟨g, j * 2 + 1, none⟩ = some (.string (mtext (m + 1))))
          (first | assumption | exact HC.out | exact ⟨(hb2.cell (p := ⟨g, j * 2, none⟩) lt1).trans HC.out.1, (hb2.cell (p := ⟨g, j * 2 + 1, none⟩) lt1).trans HC.out.2⟩)
          (first | (go_at_call 54; refine (mark_text m _ (by omega) (by omega)).mono ?_; rintro e w2 ⟨rfl, hb2⟩))
        have HC2 : Hid (w2.cell? ⟨g, j * 2, none⟩ = some (.string (mtext m)) ∧ w2.cell? ⟨g, j * 2 + 1, none⟩ = some (.string (mtext (m + 1)))) := ⟨(hb2.cell (p := ⟨g, j * 2, none⟩) lt1).trans HC.out.1, (hb2.cell (p := ⟨g, j * 2 + 1, none⟩) lt1).trans HC.out.2⟩
        have lt2 : g < w2.heap.size := Nat.lt_of_lt_of_le lt1 hb2.size
        have HB2 := hid (HB.out.drew.trans (hb2.mono HB.out.size))
        clear hb2 lt1
        go_wp2_with fail
        go_region_held3 (fun w' => w'.cell? ⟨g, j * 2, none⟩ = some (.string (mtext m)) ∧ w'.cell? ⟨g, j * 2 + 1, none⟩ = some (.string (mtext (m + 1))))
          (first | assumption | exact HC2.out | exact ⟨(hb3.cell (p := ⟨g, j * 2, none⟩) lt2).trans HC2.out.1, (hb3.cell (p := ⟨g, j * 2 + 1, none⟩) lt2).trans HC2.out.2⟩)
          (first | (go_at_call 54; refine (mark_text' ((m : Int) + 1) (m + 1) (by omega) _ (by omega) (by omega)).mono ?_; rintro e w3 ⟨rfl, hb3⟩))
        have HB3 := hid (HB2.out.drew.trans (hb3.mono HB2.out.size))
        clear hb3 lt2
        go_wp2
        exact ⟨⟨j + 1, m + 2, by omega, by go_num, by go_num, by show _ = _; have := HM.out; omega, HB3.out⟩, by simp [intOf]; omega⟩
      · have hjl : Hid (j = n) := by show _ = _; omega
        go_wp2
        go_ret
        exact ⟨ret_int (by rw [HM.out, hjl.out]), HB.out⟩

set_option maxHeartbeats 16000000 in
theorem held_state (a : Option Addr) (n c k : Nat) (w : World) (h : OwnS w a (prcells (prmarks k n))) (hk : 0 < k) (hl : k + 2 * n ≤ 100000000) :
    Calls Tryz.prog 77 #[stV a n c, .int .i64 (k : Int)] w fun e w' => e = .returned (.int .i64 ((k + 2 * n : Nat) : Int)) ∧ Below w.heap.size w w' := by
  have hb0 : ∀ o, Below w.heap.size w (w.alloc o) := fun o => (Below.refl _ _).alloc (Nat.le_refl _) _
  have hkn : ¬ ((k + 2 * n : Nat) : Int) < 0 := by omega
  obtain ⟨m, HM⟩ : ∃ m, Hid (m = k + 2 * n) := ⟨_, hid rfl⟩
  have HP := hid (fun w' h' => held_prs a n c k w' h' hk hl)
  rw [← HM.out] at HP hkn ⊢
  go_enter Tryz.func77, Tryz.ntmps77
  go_wp2_with (go_at_call 106; refine (HP.out _ (h.below (hb0 _))).mono ?_; rintro e w1 ⟨rfl, hb1⟩)
  go_ret
  exact ⟨rfl, (hb0 _).trans (hb1.mono (by simp))⟩
end Go.Proofs.YtnmaknnnmjfhkafGreat

namespace Go.Proofs.YtnmaknnnmjfhkafGreat
open Go.RowKit
set_option linter.unusedVariables false
set_option linter.unusedSimpArgs false
set_option maxRecDepth 8000

set_option maxHeartbeats 16000000 in
theorem mark_store (W S L T H F R U O : Int) (a : Option Addr) (rs : List (ByteArray × ByteArray)) (c k : Nat) (w : World) (h : OwnS w a (prcells rs)) (hk : 0 < k) (hl : k + 2 * rs.length ≤ 100000000) :
    Calls Tryz.prog 11 #[storeV W S L T H F R U O a rs.length c, .int .i64 (k : Int)] w fun e w' => e = .returned (.int .i64 ((k + 2 * rs.length : Nat) : Int)) ∧ w.grownBy w' (blk a rs.length) ∧ OwnS w' a (prcells (prmarks k rs.length)) := by
  have hb0 : ∀ o, Below w.heap.size w (w.alloc o) := fun o => (Below.refl _ _).alloc (Nat.le_refl _) _
  have HMS := hid (fun w' h' => mark_state a rs c k w' h' hk hl)
  obtain ⟨m, HM⟩ : ∃ m, Hid (m = k + 2 * rs.length) := ⟨_, hid rfl⟩
  rw [← HM.out] at HMS ⊢
  unfold storeV
  go_enter Tryz.func11, Tryz.ntmps11
  go_wp2_with (go_at_call 31; refine (HMS.out _ (h.below (hb0 _))).mono ?_; rintro e w1 ⟨rfl, hg1, ho1⟩; have HG := hid (grown_trans (grown_of_below (blk a rs.length) (hb0 _)) hg1); have HO := hid ho1; clear hg1 ho1)
  go_ret
  exact ⟨rfl, HG.out, HO.out⟩

set_option maxHeartbeats 16000000 in
theorem held_store (W S L T H F R U O : Int) (a : Option Addr) (n c k : Nat) (w : World) (h : OwnS w a (prcells (prmarks k n))) (hk : 0 < k) (hl : k + 2 * n ≤ 100000000) :
    Calls Tryz.prog 33 #[storeV W S L T H F R U O a n c, .int .i64 (k : Int)] w fun e w' => e = .returned (.int .i64 ((k + 2 * n : Nat) : Int)) ∧ Below w.heap.size w w' := by
  have hb0 : ∀ o, Below w.heap.size w (w.alloc o) := fun o => (Below.refl _ _).alloc (Nat.le_refl _) _
  have HMS := hid (fun w' h' => held_state a n c k w' h' hk hl)
  obtain ⟨m, HM⟩ : ∃ m, Hid (m = k + 2 * n) := ⟨_, hid rfl⟩
  have hm0 : (0 : Int) ≤ (m : Int) := by omega
  rw [← HM.out] at HMS ⊢
  unfold storeV
  go_enter Tryz.func33, Tryz.ntmps33
  go_wp2_with (go_at_call 77; refine (HMS.out _ (h.below (hb0 _))).mono ?_; rintro e w1 ⟨rfl, hb1⟩)
  go_ret
  exact ⟨rfl, (hb0 _).trans (hb1.mono (by simp))⟩

end Go.Proofs.YtnmaknnnmjfhkafGreat

namespace Go.Proofs.YtnmaknnnmjfhkafGreat
open Go.RowKit
set_option maxRecDepth 4000
set_option linter.unusedVariables false
set_option linter.unusedSimpArgs false

theorem getxo {w : World} {g : Nat} {cs : List Value} (h : Row w g cs) (i : Nat) (hi : i < cs.length) : (∃ u, w.cell? ⟨g, i, none⟩ = some u) ∧ w.frozen? ⟨g, i, none⟩ = false := ⟨⟨_, h.cell i _ (List.getElem?_eq_getElem hi)⟩, h.froz i hi⟩
def opm (m : Nat) : Bool × Int × ByteArray := (decide (m % 3 = 0), ((m + 1 : Nat) : Int), mtext (m + 2))
def opmarks (k n : Nat) : List (Bool × Int × ByteArray) := (List.range n).map fun i => opm (k + 3 * i)
theorem opmarks_length (k n : Nat) : (opmarks k n).length = n := by simp [opmarks]
theorem opmarks_succ (k n : Nat) : opmarks k (n + 1) = opmarks k n ++ [opm (k + 3 * n)] := by simp [opmarks, List.range_succ]
def opmixed (k i : Nat) (rs : List (Bool × Int × ByteArray)) : List Value := opcells (opmarks k i ++ rs.drop i)
theorem opmixed_length (k i : Nat) (rs : List (Bool × Int × ByteArray)) (h : i ≤ rs.length) : (opmixed k i rs).length = rs.length * 3 := by simp [opmixed, opcells_length, opmarks_length]; omega
theorem opmixed_set (k i : Nat) (rs : List (Bool × Int × ByteArray)) (h : i < rs.length) : (((opmixed k i rs).set (i * 3) (.bool (decide ((k + 3 * i) % 3 = 0)))).set (i * 3 + 1) (.int .i64 ((k + 3 * i + 1 : Nat) : Int))).set (i * 3 + 2) (.string (mtext (k + 3 * i + 2))) = opmixed k (i + 1) rs := by
  have el : (opcells (opmarks k i)).length = i * 3 := by rw [opcells_length, opmarks_length]
  unfold opmixed
  rw [opmarks_succ, drop_at rs i (false, 0, ByteArray.empty) h, opcells_append, opcells_append, opcells_append, List.set_append_right _ _ (by omega), List.set_append_right _ _ (by omega), List.set_append_right _ _ (by omega), el]
  simp [opcells, opm]

set_option maxHeartbeats 16000000 in
theorem mark_ops (a : Option Addr) (rs : List (Bool × Int × ByteArray)) (c k : Nat) (w : World) (h : OwnS w a (opcells rs)) (hk : 0 < k) (hl : k + 3 * rs.length ≤ 100000000) :
    Calls Tryz.prog 32 #[.slice a rs.length c, .int .i64 (k : Int)] w fun e w' => e = .returned (.int .i64 ((k + 3 * rs.length : Nat) : Int)) ∧ w.grownBy w' (blk a rs.length) ∧ OwnS w' a (opcells (opmarks k rs.length)) := by
  by_cases hss : rs = []
  · skip
    subst hss
    go_enter Tryz.func32, Tryz.ntmps32
    go_wp2
    refine wp_loop_rounds 1 ?_
    rw [rounds_succ]
    go_wp2
    go_ret
    exact ⟨rfl, grown_refl _ _, .inl rfl⟩
  · obtain ⟨g, rfl, hrow⟩ := h.resolve_left (fun e => hss (by have := congrArg List.length e; rw [opcells_length, List.length_nil] at this; exact List.eq_nil_of_length_eq_zero (by omega)))
    rw [blk_pos g 0 rs.length (fun e => hss (List.eq_nil_of_length_eq_zero e))]
    have hr0 : Row w g (opmixed k 0 rs) := by simpa [opmixed, opmarks] using hrow
    clear hrow hss
    go_enter Tryz.func32, Tryz.ntmps32
    go_wp2
    go_loopw [1, 5] (fun x i wr => ∃ j m : Nat, j ≤ rs.length ∧ i = .int .i64 (j : Int) ∧ x = .int .i64 (m : Int) ∧ Hid (m = k + 3 * j) ∧ Row wr g (opmixed k j rs) ∧ w.grownBy wr (some g)) (fun _ i _ => rs.length - (intOf i).toNat)
    case atStart => exact ⟨0, k, Nat.zero_le _, rfl, rfl, hid rfl, hr0, grown_refl _ _⟩
    case round =>
      clear hr0
      obtain ⟨j, m, hj, rfl, rfl, HM, hrow, hgr⟩ := hrel
      have HR := hid hrow
      have HG := hid hgr
      clear hgr hrow
      by_cases hlt : j < rs.length
      · have HL := hid (opmixed_length k j rs hj)
        have hmj : (m : Int) ≤ 99999997 := by have := HM.out; omega
        have hmj0 : (0 : Int) < (m : Int) := by have := HM.out; omega
        have hgn : (((m : Int)) % 3 == 0) = decide (m % 3 = 0) := by rw [Bool.eq_iff_iff]; simp; omega
        obtain ⟨⟨u0, hu0⟩, hf0⟩ := getxo HR.out (j * 3) (by rw [HL.out]; omega)
        obtain ⟨⟨u1, hu1⟩, hf1⟩ := getxo HR.out (j * 3 + 1) (by rw [HL.out]; omega)
        have HR1 := hid ((HR.out.set (j * 3) (by rw [HL.out]; omega) (.bool (decide (m % 3 = 0)))).set (j * 3 + 1) (by rw [List.length_set, HL.out]; omega) (.int .i64 ((m : Int) + 1)))
        go_wp2_with (go_at_call 54; refine (mark_text' ((m : Int) + 1 + 1) (m + 2) (by omega) _ (by omega) (by omega)).mono ?_; rintro e w3 ⟨rfl, hb3⟩; (try rw [hgn] at hb3); have HR3 := hid (HR1.out.below hb3); have hu4 := getxo HR3.out (j * 3 + 2) (by rw [List.length_set, List.length_set, HL.out]; omega); obtain ⟨⟨u4, hu4⟩, hf4⟩ := hu4; have HG3 := hid (grown_trans (grown_set (grown_set HG.out _ _) _ _) (grown_of_below _ hb3)); clear hb3)
        have hset : (((opmixed k j rs).set (j * 3) (.bool (decide (m % 3 = 0)))).set (j * 3 + 1) (.int .i64 ((m : Int) + 1))).set (j * 3 + 2) (.string (mtext (m + 2))) = opmixed k (j + 1) rs := by
          rw [HM.out, ← opmixed_set k j rs hlt]; rfl
        refine ⟨⟨j + 1, m + 3, by omega, by go_num, by go_num, by show _ = _; have := HM.out; omega, ?_, grown_set HG3.out _ _⟩, by simp [intOf]; omega⟩
        rw [← hset]
        exact HR3.out.set (j * 3 + 2) (by rw [List.length_set, List.length_set, HL.out]; omega) _
      · have hjl : Hid (j = rs.length) := by show _ = _; omega
        go_wp2
        go_ret
        refine ⟨ret_int (by rw [HM.out, hjl.out]), HG.out, .inr ⟨g, rfl, ?_⟩⟩
        have := HR.out
        rw [hjl.out] at this
        simpa [opmixed] using this

end Go.Proofs.YtnmaknnnmjfhkafGreat

namespace Go.Proofs.YtnmaknnnmjfhkafGreat
open Go.RowKit
set_option maxRecDepth 4000
set_option linter.unusedVariables false
set_option linter.unusedSimpArgs false

set_option maxHeartbeats 16000000 in
theorem held_ops (a : Option Addr) (n c k : Nat) (w : World) (h : OwnS w a (opcells (opmarks k n))) (hk : 0 < k) (hl : k + 3 * n ≤ 100000000) :
    Calls Tryz.prog 34 #[.slice a n c, .int .i64 (k : Int)] w fun e w' => e = .returned (.int .i64 ((k + 3 * n : Nat) : Int)) ∧ Below w.heap.size w w' := by
  rcases h with h | ⟨g, rfl, hrow⟩
  · have hn : n = 0 := by have := congrArg List.length h; rw [opcells_length, opmarks_length, List.length_nil] at this; omega
    subst hn
    go_enter Tryz.func34, Tryz.ntmps34
    go_wp2
    refine wp_loop_rounds 1 ?_
    rw [rounds_succ]
    go_wp2
    go_ret
    exact ⟨rfl, Below.refl _ _⟩
  · have HROW := hid hrow
    clear hrow
    go_enter Tryz.func34, Tryz.ntmps34
    go_wp2
    go_loopw [1, 5] (fun x i wr => ∃ j m : Nat, j ≤ n ∧ i = .int .i64 (j : Int) ∧ x = .int .i64 (m : Int) ∧ Hid (m = k + 3 * j) ∧ Below w.heap.size w wr) (fun _ i _ => n - (intOf i).toNat)
    case atStart => exact ⟨0, k, Nat.zero_le _, rfl, rfl, hid rfl, Below.refl _ _⟩
    case round =>
      obtain ⟨j, m, hj, rfl, rfl, HM, hbel⟩ := hrel
      have HR := hid (HROW.out.below hbel)
      have HB := hid hbel
      clear hbel
      by_cases hlt : j < n
      · have hmj : (m : Int) ≤ 99999997 := by have := HM.out; omega
        have hmj0 : (0 : Int) < (m : Int) := by have := HM.out; omega
        have hj0 : (0 : Int) ≤ (j : Int) := by omega
        have hj1 : (j : Int) < (n : Int) := by omega
        have hat := opcells_at (opmarks k n) j (by rw [opmarks_length]; exact hlt)
        have hgd : (opmarks k n).getD j (false, 0, ByteArray.empty) = opm m := by rw [HM.out]; simp [opmarks, List.getD, hlt]
        rw [hgd] at hat
        obtain ⟨G, HGG⟩ : ∃ G, Hid (G = decide (m % 3 = 0)) := ⟨_, hid rfl⟩
        have hgn : (((m : Int)) % 3 == 0) = G := by rw [HGG.out, Bool.eq_iff_iff]; simp; omega
        have hc0 : wr.cell? ⟨g, j * 3, none⟩ = some (.bool G) := by rw [HGG.out]; exact HR.out.cell _ _ hat.1
        have hc1 : wr.cell? ⟨g, j * 3 + 1, none⟩ = some (.int .i64 ((m : Int) + 1)) := HR.out.cell _ _ hat.2.1
        have hc2 : wr.cell? ⟨g, j * 3 + 2, none⟩ = some (.string (mtext (m + 2))) := HR.out.cell _ _ hat.2.2
        have lt1 : g < wr.heap.size := HR.out.lt
        have hgq : (G != G) = false := by simp
        clear hat hgd
        go_wp2_with fail
        go_region_held3 (fun w' => w'.cell? ⟨g, j * 3 + 2, none⟩ = some (.string (mtext (m + 2))))
          (first | assumption | exact hc2 | exact (hb2.cell (p := ⟨g, j * 3 + 2, none⟩) lt1).trans hc2)
          (first | (go_at_call 54; refine (mark_text' ((m : Int) + 1 + 1) (m + 2) (by omega) _ (by omega) (by omega)).mono ?_; rintro e w2 ⟨rfl, hb2⟩))
        have HB2 := hid (HB.out.drew.trans (hb2.mono HB.out.size))
        clear hb2
        go_wp2
        exact ⟨⟨j + 1, m + 3, by omega, by go_num, by go_num, by show _ = _; have := HM.out; omega, HB2.out⟩, by simp [intOf]; omega⟩
      · have hjl : Hid (j = n) := by show _ = _; omega
        go_wp2
        go_ret
        exact ⟨ret_int (by rw [HM.out, hjl.out]), HB.out⟩
end Go.Proofs.YtnmaknnnmjfhkafGreat

namespace Go.Proofs.YtnmaknnnmjfhkafGreat
open Go.RowKit
set_option maxRecDepth 4000
set_option linter.unusedVariables false

set_option maxHeartbeats 16000000 in
theorem eq_op (g0 : Bool) (n1 : Int) (s2 : ByteArray) (w : World) :
    Calls Tryz.prog 74 #[.agg #[.bool g0, .int .i64 n1, .string s2], .agg #[.bool g0, .int .i64 n1, .string s2]] w fun e w' => e = .returned (.bool true) ∧ Below w.heap.size w w' := by
  go_enter Tryz.func74, Tryz.ntmps74
  go_wp2
  go_ret
  exact ⟨rfl, ((Below.refl _ _).alloc (Nat.le_refl _) _).alloc (by simp) _⟩

set_option maxHeartbeats 16000000 in
theorem eq_ops (a b : Option Addr) (rs : List (Bool × Int × ByteArray)) (c c' : Nat) (w : World) (h : Ops w a rs) (h' : Ops w b rs) (hl : rs.length ≤ 1048576) :
    Calls Tryz.prog 28 #[.slice a rs.length c, .slice b rs.length c'] w fun e w' => e = .returned (.bool true) ∧ Below w.heap.size w w' := by
  go_enter Tryz.func28, Tryz.ntmps28
  go_wp2
  go_loopw [5] (fun i wr => ∃ k : Nat, k ≤ rs.length ∧ i = .int .i64 k ∧ Below w.heap.size w wr) (fun i _ => rs.length - (intOf i).toNat)
  case atStart => exact ⟨0, Nat.zero_le _, rfl, Below.refl _ _⟩
  case round =>
    obtain ⟨k, hk, rfl, hbel⟩ := hrel
    by_cases hlt : k < rs.length
    · obtain ⟨b1, o1, g0, n1, s2, rfl, hc0, hc1, hc2, HS⟩ := (h.below hbel).at hlt
      obtain ⟨b2, o2, g0x, n1x, s2x, rfl, hd0, hd1, hd2, HS'⟩ := (h'.below hbel).at hlt
      obtain ⟨rfl, rfl, rfl⟩ : g0 = g0x ∧ n1 = n1x ∧ s2 = s2x := by have := HS.out.trans HS'.out.symm; simpa using this
      have hk1 : (k : Int) < (rs.length : Int) := by omega
      have hk0 : (0 : Int) ≤ (k : Int) := by omega
      have lt1 : b1 < wr.heap.size := by have := World.block_lt_of_cell? wr _ hc0; simpa using this
      have lt2 : b2 < wr.heap.size := by have := World.block_lt_of_cell? wr _ hd0; simpa using this
      have HQ : Hid (wr.cell? ⟨b1, o1 + k * 3, none⟩ = some (.bool g0) ∧ wr.cell? ⟨b1, o1 + k * 3 + 1, none⟩ = some (.int .i64 n1) ∧ wr.cell? ⟨b1, o1 + k * 3 + 2, none⟩ = some (.string s2) ∧ wr.cell? ⟨b2, o2 + k * 3, none⟩ = some (.bool g0) ∧ wr.cell? ⟨b2, o2 + k * 3 + 1, none⟩ = some (.int .i64 n1) ∧ wr.cell? ⟨b2, o2 + k * 3 + 2, none⟩ = some (.string s2)) := ⟨hc0, hc1, hc2, hd0, hd1, hd2⟩
      clear HS HS' hc0 hc1 hc2 hd0 hd1 hd2
      go_wp2_with fail
      go_region_held3 (fun w' => w'.cell? ⟨b1, o1 + k * 3, none⟩ = some (.bool g0) ∧ w'.cell? ⟨b1, o1 + k * 3 + 1, none⟩ = some (.int .i64 n1) ∧ w'.cell? ⟨b1, o1 + k * 3 + 2, none⟩ = some (.string s2) ∧ w'.cell? ⟨b2, o2 + k * 3, none⟩ = some (.bool g0) ∧ w'.cell? ⟨b2, o2 + k * 3 + 1, none⟩ = some (.int .i64 n1) ∧ w'.cell? ⟨b2, o2 + k * 3 + 2, none⟩ = some (.string s2))
        (first | assumption | exact HQ.out | exact ⟨(hb2.cell (p := ⟨b1, _, none⟩) lt1).trans HQ.out.1, (hb2.cell (p := ⟨b1, _, none⟩) lt1).trans HQ.out.2.1, (hb2.cell (p := ⟨b1, _, none⟩) lt1).trans HQ.out.2.2.1, (hb2.cell (p := ⟨b2, _, none⟩) lt2).trans HQ.out.2.2.2.1, (hb2.cell (p := ⟨b2, _, none⟩) lt2).trans HQ.out.2.2.2.2.1, (hb2.cell (p := ⟨b2, _, none⟩) lt2).trans HQ.out.2.2.2.2.2⟩)
        (first | (go_at_call 74; refine (eq_op g0 n1 s2 _).mono ?_; rintro e w2 ⟨rfl, hb2⟩))
      go_wp2
      go_roundw
      case rel => exact ⟨k + 1, by omega, by go_num, hbel.drew.trans (hb2.mono hbel.size)⟩
      case measure => simp [intOf]; omega
    · go_wp2
      go_ret
      exact ⟨rfl, hbel⟩
end Go.Proofs.YtnmaknnnmjfhkafGreat

namespace Go.Proofs.YtnmaknnnmjfhkafGreat
open Go.RowKit
set_option maxRecDepth 8000
set_option linter.unusedVariables false
set_option linter.unusedSimpArgs false

theorem own_apart {w w1 : World} {ops : List OpT} {a b : Option Addr} {n : Nat} (h : OwnS w b (opcells ops)) (hg : w.grownBy w1 (blk a n)) (ne : Apart a n b ops.length) : OwnS w1 b (opcells ops) :=
  h.grown hg (fun g hg hne => by
    rcases ne with h0 | h0 | h0
    · rw [h0]; simp
    · subst hg; rw [blk_pos g 0 _ (ne_of_opcells hne)] at h0; cases h0
    · subst hg; rw [blk_pos g 0 _ (ne_of_opcells hne)] at h0; exact fun e => h0 e.symm)

set_option maxHeartbeats 16000000 in
theorem eq_done (d : Dd) (a : Option Addr) (c : Nat) (b : Option Addr) (e : Nat) (a' : Option Addr) (c' : Nat) (b' : Option Addr) (e' : Nat) (w : World) (h1 : Prs w a d.rs) (h2 : Ops w b d.ops) (h3 : Prs w a' d.rs) (h4 : Ops w b' d.ops) (hl : d.rs.length ≤ 1048576) (hl2 : d.ops.length ≤ 1048576) :
    Calls Tryz.prog 9 #[dnV d a c b e, dnV d a' c' b' e'] w fun x w' => x = .returned (.bool true) ∧ Below w.heap.size w w' := by
  obtain ⟨C, W, S, L, T, H, F, R, U, O, rs, ops⟩ := d
  have hb0 : ∀ o1 o2, Below w.heap.size w ((w.alloc o1).alloc o2) := fun o1 o2 => ((Below.refl _ _).alloc (Nat.le_refl _) _).alloc (by simp) _
  have HES := hid (fun w' h' h'' => eq_store W S L T H F R U O a a' rs c c' w' h' h'' hl)
  unfold storeV at HES
  unfold dnV
  simp only at h1 h2 h3 h4 hl hl2
  go_enter Tryz.func9, Tryz.ntmps9
  go_wp2_with (first | (go_at_call 10; refine (HES.out _ (h1.below (hb0 _ _)) (h3.below (hb0 _ _))).mono ?_; rintro x w1 ⟨rfl, hb1⟩; have HB1 := hid ((hb0 _ _).trans (hb1.mono (by simp <;> omega))); have q1 : w1.cell? ⟨w.heap.size, 11, none⟩ = some (.slice b ops.length e) := (hb1.cell (p := ⟨w.heap.size, 11, none⟩) (by simp <;> omega)).trans (by go_simp); have q2 : w1.cell? ⟨w.heap.size + 1, 11, none⟩ = some (.slice b' ops.length e') := (hb1.cell (p := ⟨w.heap.size + 1, 11, none⟩) (by simp <;> omega)).trans (by go_simp); clear hb1) | (go_at_call 28; refine (eq_ops b b' ops e e' _ (h2.below HB1.out) (h4.below HB1.out) hl2).mono ?_; rintro x w2 ⟨rfl, hb2⟩))
  go_ret
  exact ⟨rfl, HB1.out.trans (hb2.mono HB1.out.size)⟩

set_option maxHeartbeats 16000000 in
theorem mark_done (d : Dd) (a : Option Addr) (c : Nat) (b : Option Addr) (e k : Nat) (w : World) (h : OwnDn w d.rs d.ops a b) (hk : 0 < k) (hl : k + 2 * d.rs.length + 3 * d.ops.length ≤ 100000000) :
    Calls Tryz.prog 12 #[dnV d a c b e, .int .i64 (k : Int)] w fun x w' => x = .returned (.int .i64 ((k + 2 * d.rs.length + 3 * d.ops.length : Nat) : Int)) ∧ (∃ w1 w2, Below w.heap.size w w1 ∧ w1.grownBy w2 (blk a d.rs.length) ∧ w2.grownBy w' (blk b d.ops.length)) ∧ OwnDn w' (prmarks k d.rs.length) (opmarks (k + 2 * d.rs.length) d.ops.length) a b := by
  obtain ⟨C, W, S, L, T, H, F, R, U, O, rs, ops⟩ := d
  simp only at h hl ⊢
  have hb0 : ∀ o, Below w.heap.size w (w.alloc o) := fun o => (Below.refl _ _).alloc (Nat.le_refl _) _
  have l1 := h.s.lt rs.length prcells_ne
  have l2 := h.p.lt ops.length opcells_ne
  have HMS := hid (fun w' h' => mark_store W S L T H F R U O a rs c k w' h' hk (by omega))
  obtain ⟨m, HM⟩ : ∃ m, Hid (m = k + 2 * rs.length) := ⟨_, hid rfl⟩
  have HMO := hid (fun w' h' => mark_ops b ops e m w' h' (by have := HM.out; omega) (by have := HM.out; omega))
  rw [← HM.out] at HMS ⊢
  unfold storeV at HMS
  unfold dnV
  simp only
  go_enter Tryz.func12, Tryz.ntmps12
  go_wp2_with (first | (go_at_call 11; refine (HMS.out _ (h.s.below (hb0 _))).mono ?_; rintro x w1 ⟨rfl, hg1, ho1⟩; have q1 : w1.cell? ⟨w.heap.size, 11, none⟩ = some (.slice b ops.length e) := (World.cell?_of_block (a := ⟨w.heap.size, 11, none⟩) (hg1.block w.heap.size (by simp) (fun e => by have := l1 _ e.symm; omega))).trans (by go_simp); have HG1 := hid hg1; have HO1 := hid ho1; clear hg1 ho1) | (go_at_call 32; refine (HMO.out _ (own_apart (h.p.below (hb0 _)) HG1.out h.ne)).mono ?_; rintro x w2 ⟨rfl, hg2, ho2⟩; have HG2 := hid hg2; have HO2 := hid ho2; clear hg2 ho2))
  go_ret
  refine ⟨rfl, ⟨_, w1, hb0 _, HG1.out, HG2.out⟩, ?_, HO2.out, ?_⟩
  · refine HO1.out.grown HG2.out (fun g hg hne => ?_)
    have hn1 : rs.length ≠ 0 := by have := ne_of_prcells hne; rwa [prmarks_length] at this
    subst hg
    rcases h.ne with h0 | h0 | h0
    · rw [blk_pos g 0 _ hn1] at h0; cases h0
    · rw [h0]; simp
    · rwa [blk_pos g 0 _ hn1] at h0
  · rw [prmarks_length, opmarks_length]; exact h.ne

set_option maxHeartbeats 16000000 in
theorem held_done (d : Dd) (a : Option Addr) (c : Nat) (b : Option Addr) (e k : Nat) (w : World) (h : OwnS w a (prcells (prmarks k d.rs.length))) (h' : OwnS w b (opcells (opmarks (k + 2 * d.rs.length) d.ops.length))) (hk : 0 < k) (hl : k + 2 * d.rs.length + 3 * d.ops.length ≤ 100000000) :
    Calls Tryz.prog 13 #[dnV d a c b e, .int .i64 (k : Int)] w fun x w' => x = .returned (.int .i64 ((k + 2 * d.rs.length + 3 * d.ops.length : Nat) : Int)) ∧ Below w.heap.size w w' := by
  obtain ⟨C, W, S, L, T, H, F, R, U, O, rs, ops⟩ := d
  simp only at h h' hl ⊢
  have hb0 : ∀ o, Below w.heap.size w (w.alloc o) := fun o => (Below.refl _ _).alloc (Nat.le_refl _) _
  have HMS := hid (fun w' h' => held_store W S L T H F R U O a rs.length c k w' h' hk (by omega))
  obtain ⟨m, HM⟩ : ∃ m, Hid (m = k + 2 * rs.length) := ⟨_, hid rfl⟩
  have HMO := hid (fun w' h' => held_ops b ops.length e m w' h' (by have := HM.out; omega) (by have := HM.out; omega))
  rw [← HM.out] at HMS h' ⊢
  obtain ⟨m2, HM2⟩ : ∃ m2, Hid (m2 = m + 3 * ops.length) := ⟨_, hid rfl⟩
  rw [← HM2.out] at HMO ⊢
  have hm0 : (0 : Int) ≤ (m : Int) := by omega
  have hm2 : (0 : Int) ≤ (m2 : Int) := by omega
  unfold storeV at HMS
  unfold dnV
  simp only
  go_enter Tryz.func13, Tryz.ntmps13
  go_wp2_with (first | (go_at_call 33; refine (HMS.out _ (h.below (hb0 _))).mono ?_; rintro x w1 ⟨rfl, hb1⟩; have q1 : w1.cell? ⟨w.heap.size, 11, none⟩ = some (.slice b ops.length e) := (hb1.cell (p := ⟨w.heap.size, 11, none⟩) (by simp)).trans (by go_simp); have HB1 := hid ((hb0 _).trans (hb1.mono (by simp))); clear hb1) | (go_at_call 34; refine (HMO.out _ (h'.below HB1.out)).mono ?_; rintro x w2 ⟨rfl, hb2⟩))
  go_ret
  exact ⟨rfl, HB1.out.trans (hb2.mono HB1.out.size)⟩
end Go.Proofs.YtnmaknnnmjfhkafGreat

namespace Go.Proofs.YtnmaknnnmjfhkafGreat
open Go.RowKit Go.ChangeShapes Go.WideShapes Go.Deep
section
variable {H : Type} {enc : TypeId × Value → H} {P : Program} {w : World} {base : Nat} {spare : Nat → Bool} {held : Bool}

theorem add_none {a : Addr} {i : Nat} {v : Value} (h : w.cell? (a.add i) = some v) (h0 : ∃ u, w.cell? (a.add 0) = some u) : ∃ b o, a = ⟨b, o, none⟩ := by
  obtain ⟨b, o, s⟩ := a
  obtain ⟨u, hu⟩ := h0
  have hs : s = none := by simpa [Addr.add] using World.cell?_spot hu
  exact ⟨b, o, by rw [hs]⟩
theorem add_mk (b o i : Nat) : (⟨b, o, none⟩ : Addr).add i = ⟨b, o + i, none⟩ := by unfold Addr.add; split <;> simp_all

theorem strs_of_trod {t e : TypeId} {fuel : Nat} {v : Value} {x : DataW H × List MemPlace} (ht : P.underlying t = some (.slice e)) (he : P.underlying e = some .string) (hc : P.cellsOf e = 1)
    (h : DataW.trod enc P w base spare held fuel t [v] = some x) : ∃ a ss c, v = .slice a ss.length c ∧ Strs w a ss ∧ ss.length ≤ maxLen ∧ ∀ s ∈ ss, s.size ≤ maxLen := by
  rcases open_strings ht he hc h with ⟨hcs, _⟩ | ⟨a, len, cap, ss, hcs, _, hl, hm, hz, _, hcell, hw⟩
  · simp at hcs
    exact ⟨none, [], 0, by simpa using hcs, .inl rfl, by simp, by simp⟩
  · simp at hcs
    have hlen : len ≤ ss.length := by rw [hz]; split <;> omega
    have e1 : (ss.take len).length = len := by simp; omega
    refine ⟨some a, ss.take len, cap, by rw [e1]; exact hcs, ?_, by omega, fun s hs => hw s (List.mem_of_mem_take hs)⟩
    by_cases h0 : len = 0
    · exact .inl (by subst h0; simp)
    · obtain ⟨b, o, rfl⟩ := add_none (hcell 0 (by omega)) ⟨_, hcell 0 (by omega)⟩
      have hb := World.block_lt_of_cell? w _ (hcell 0 (by omega))
      rw [add_mk] at hb
      refine .inr ⟨b, o, rfl, hb, fun i hi => ?_⟩
      have := hcell i (by omega)
      rw [add_mk] at this
      rw [this]
      have hi' : i < len := by omega
      simp [List.getD, List.getElem?_take_of_lt hi']

theorem wrs_of_trod {t e : TypeId} {f0 f1 : Field} {fuel : Nat} {v : Value} {x : DataW H × List MemPlace} (ht : P.underlying t = some (.slice e)) (he : P.underlying e = some (.struct #[f0, f1]))
    (ce : P.cellsOf e = 2) (o0 : f0.offset = 0) (o1 : f1.offset = 1) (c0 : P.cellsOf f0.type = 1) (c1 : P.cellsOf f1.type = 1) (t0 : P.underlying f0.type = some (.int .i64)) (t1 : P.underlying f1.type = some .string)
    (h : DataW.trod enc P w base spare held fuel t [v] = some x) : ∃ a ws c, v = .slice a ws.length c ∧ Wrs w a ws ∧ ws.length ≤ maxLen ∧ (∀ s ∈ ws, s.2.size ≤ maxLen) ∧ ∀ s ∈ ws, (Lit.int .i64 s.1).wf = true := by
  rcases open_slice_pairs ht he ce o0 o1 c0 c1 h with ⟨hcs, _⟩ | ⟨a, len, cap, m, n, V0, V1, D0, D1, P0, P1, hcs, _, hl, hm, hz, _, hcell⟩
  · simp at hcs
    exact ⟨none, [], 0, by simpa using hcs, .inl rfl, by simp, by simp, by simp⟩
  · simp at hcs
    have hlm : len ≤ m := by rw [hz]; split <;> omega
    have each : ∀ i, i < len → ∃ q : Int × ByteArray, w.cell? (a.add (i * 2)) = some (.int .i64 q.1) ∧ w.cell? (a.add (i * 2 + 1)) = some (.string q.2) ∧ q.2.size ≤ maxLen ∧ (Lit.int .i64 q.1).wf = true := by
      intro i hi
      obtain ⟨h1, h2, h3, h4⟩ := hcell i (by omega)
      obtain ⟨y, ey, _, wy⟩ := DataW.trod_int t0 h3
      obtain ⟨s, es, _, ws⟩ := DataW.trod_string t1 h4
      simp at ey es
      rw [ey] at h1
      rw [es] at h2
      exact ⟨(y, s), h1, h2, ws, wy⟩
    obtain ⟨q, hq⟩ := choose_lt each
    have e1 : ((List.range len).map q).length = len := by simp
    refine ⟨some a, (List.range len).map q, cap, by rw [e1]; exact hcs, ?_, by omega, fun s hs => ?_, fun s hs => ?_⟩
    · by_cases h0 : len = 0
      · exact .inl (by subst h0; simp)
      · have hq0 := (hq 0 (by omega)).1
        obtain ⟨b, o, rfl⟩ := add_none hq0 ⟨_, hq0⟩
        have hb := World.block_lt_of_cell? w _ hq0
        rw [add_mk] at hb
        refine .inr ⟨b, o, rfl, hb, fun i hi => ?_⟩
        rw [e1] at hi
        obtain ⟨h1, h2, _⟩ := hq i hi
        rw [add_mk] at h1 h2
        simp [List.getD, hi, h1, ← Nat.add_assoc] at h2 ⊢
        exact h2
    · obtain ⟨i, hi, rfl⟩ := List.mem_map.1 hs
      exact (hq i (by simpa using hi)).2.2.1
    · obtain ⟨i, hi, rfl⟩ := List.mem_map.1 hs
      exact (hq i (by simpa using hi)).2.2.2
end
end Go.Proofs.YtnmaknnnmjfhkafGreat

namespace Go.Proofs.YtnmaknnnmjfhkafGreat
open Go.RowKit Go.ChangeShapes Go.WideShapes Go.Deep
section
variable {H : Type} {enc : TypeId × Value → H} {P : Program} {w : World} {base : Nat} {spare : Nat → Bool} {held : Bool}
theorem prs_of_trod {t e : TypeId} {f0 f1 : Field} {fuel : Nat} {v : Value} {x : DataW H × List MemPlace} (ht : P.underlying t = some (.slice e)) (he : P.underlying e = some (.struct #[f0, f1]))
    (ce : P.cellsOf e = 2) (o0 : f0.offset = 0) (o1 : f1.offset = 1) (c0 : P.cellsOf f0.type = 1) (c1 : P.cellsOf f1.type = 1) (t0 : P.underlying f0.type = some .string) (t1 : P.underlying f1.type = some .string)
    (h : DataW.trod enc P w base spare held fuel t [v] = some x) : ∃ a rs c, v = .slice a rs.length c ∧ Prs w a rs ∧ rs.length ≤ maxLen ∧ (∀ s ∈ rs, s.1.size ≤ maxLen ∧ s.2.size ≤ maxLen) := by
  rcases open_slice ht h with ⟨hcs, _⟩ | ⟨a, len, cap, m, n, D, Pl, hcs, hb, hl, hm, hmm, _, hx⟩
  · simp at hcs
    exact ⟨none, [], 0, by simpa using hcs, .inl rfl, by simp, by simp⟩
  · simp at hcs
    have hlm : len ≤ m := by rw [hmm]; split <;> omega
    have each : ∀ i, i < len → ∃ q : ByteArray × ByteArray, w.cell? (a.add (i * 2)) = some (.string q.1) ∧ w.cell? (a.add (i * 2 + 1)) = some (.string q.2) ∧ q.1.size ≤ maxLen ∧ q.2.size ≤ maxLen := by
      intro i hi
      obtain ⟨cs', h1, h2⟩ := hx i (by omega)
      rw [ce] at h1
      obtain ⟨_, hlen, hcell⟩ := World.cells?_some h1
      obtain ⟨xs, k, hk, hxy, _, hxl, hf⟩ := DataW.trod_struct he h2
      match xs, hxl, cs', hlen with
      | [y0, y1], _, [v0, v1], _ =>
        have g0 := hf 0 f0 rfl
        have g1 := hf 1 f1 rfl
        simp [o0, o1, c0, c1] at g0 g1
        have e0 := hcell 0 (by omega)
        have e1 := hcell 1 (by omega)
        rw [add_add] at e0 e1
        obtain ⟨z0, ez0, _, wz0⟩ := DataW.trod_string t0 g0
        simp at ez0
        subst ez0
        obtain ⟨z1, ez1, _, wz1⟩ := DataW.trod_string t1 g1
        simp at ez1
        subst ez1
        exact ⟨(z0, z1), by simpa using e0, by simpa using e1, wz0, wz1⟩
    obtain ⟨q, hq⟩ := choose_lt each
    have e1 : ((List.range len).map q).length = len := by simp
    refine ⟨some a, (List.range len).map q, cap, by rw [e1]; exact hcs, ?_, by omega, fun s hs => ?_⟩
    · by_cases h0 : len = 0
      · exact .inl (by subst h0; simp)
      · have hq0 := (hq 0 (by omega)).1
        obtain ⟨b, o, rfl⟩ := add_none hq0 ⟨_, hq0⟩
        have hb := World.block_lt_of_cell? w _ hq0
        rw [add_mk] at hb
        refine .inr ⟨b, o, rfl, hb, fun i hi => ?_⟩
        rw [e1] at hi
        obtain ⟨h0, h1, _⟩ := hq i hi
        rw [add_mk] at h0 h1
        have eg : ((List.range len).map q).getD i (ByteArray.empty, ByteArray.empty) = q i := by simp [List.getD, hi]
        rw [eg]
        exact ⟨h0, by rw [Nat.add_assoc]; exact h1⟩
    · obtain ⟨i, hi, rfl⟩ := List.mem_map.1 hs
      exact (hq i (by simpa using hi)).2.2
end
end Go.Proofs.YtnmaknnnmjfhkafGreat

namespace Go.Proofs.YtnmaknnnmjfhkafGreat
open Go.RowKit Go.ChangeShapes Go.WideShapes Go.Deep Go.Joins
section
variable {H : Type} {enc : TypeId × Value → H} {P : Program} {w : World} {base : Nat} {spare : Nat → Bool} {held : Bool}
theorem open_agg1' {r : Reach} {b0 : Nat} {t : TypeId} {f0 : Field} {v : Value} {d : DataW H} {p : List MemPlace} (hs : P.underlying t = some (.struct #[f0])) (o0 : f0.offset = 0) (k0 : P.cellsOf f0.type = 1) (hC : P.cellsOf t = 1)
    (hv : Value.okWide P w r b0 t v) (h : DataW.Trod enc P w base spare held t v d p) :
    ∃ (v0 : Value) (y0 : DataW H × List MemPlace) (n : Nat), v = .agg #[v0] ∧ DataW.trod enc P w base spare held n f0.type [v0] = some y0 := by
  obtain ⟨cs, rfl, hsz⟩ := okWide_struct hs hv
  obtain ⟨c0, rfl⟩ : ∃ c0, cs = #[c0] := by
    have h1 : cs.size = 1 := hsz.trans hC
    exact Array.size_eq_one_iff.1 h1
  obtain ⟨fuel, hf⟩ := h
  obtain ⟨xs, k, hk, hxy, _, hxl, hf'⟩ := DataW.trod_struct hs hf
  match xs, hxl with
  | [y0], _ =>
    have g0 := hf' 0 f0 rfl
    simp [o0, k0, Value.cells] at g0
    exact ⟨c0, y0, k, rfl, g0⟩
end
end Go.Proofs.YtnmaknnnmjfhkafGreat

namespace Go.Proofs.YtnmaknnnmjfhkafGreat
open Go.RowKit Go.ChangeShapes Go.WideShapes Go.Deep Go.Joins
set_option linter.unusedVariables false
set_option linter.unusedSimpArgs false
section
variable {H : Type} {enc : TypeId × Value → H} {w : World} {base : Nat} {spare : Nat → Bool} {held : Bool}
theorem openS {P : Program} {t : TypeId} {f0 : Field} {n : Nat} {cs : List Value} {x : DataW H × List MemPlace} (hs : P.underlying t = some (.struct #[f0])) (o0 : f0.offset = 0) (k0 : P.cellsOf f0.type = 1) (hC : P.cellsOf t = 1) (h : DataW.trod enc P w base spare held n t cs = some x) :
    ∃ (c0 : Value) (y0 : DataW H × List MemPlace) (m : Nat), cs = [c0] ∧ DataW.trod enc P w base spare held m f0.type [c0] = some y0 := by
  obtain ⟨xs, m, _, _, hl, hxl, hf⟩ := DataW.trod_struct hs h
  rw [hC] at hl
  match cs, hl, xs, hxl with
  | [c0], _, [y0], _ =>
    have g0 := hf 0 f0 rfl
    rw [o0, k0] at g0
    exact ⟨c0, y0, m, rfl, g0⟩
theorem cells2' : Tryz.prog.cellsOf 126 = 2 := by kernel_rfl
theorem state_of_trod {n : Nat} {cs : List Value} {x : DataW H × List MemPlace} (h : DataW.trod enc Tryz.prog w base spare held n 26 cs = some x) : ∃ a rs c, cs = [.slice a rs.length c] ∧ Prs w a rs ∧ rs.length ≤ maxLen ∧ (∀ s ∈ rs, s.1.size ≤ maxLen ∧ s.2.size ≤ maxLen) := by
  obtain ⟨c0, y0, m, rfl, g0⟩ := openS Tryz.underlying26 rfl (by kernel_rfl) (by kernel_rfl) h
  obtain ⟨a, rs, c, rfl, h1, h2, h3⟩ := prs_of_trod Tryz.underlying24 Tryz.underlying126 cells2' rfl rfl (by kernel_rfl) (by kernel_rfl) Tryz.underlying9 Tryz.underlying9 g0
  exact ⟨a, rs, c, rfl, h1, h2, h3⟩
theorem int_of_trod {n : Nat} {v : Value} {x : DataW H × List MemPlace} (h : DataW.trod enc Tryz.prog w base spare held n 3 [v] = some x) : ∃ a, v = .int .i64 a := by
  obtain ⟨a, e, _, _⟩ := DataW.trod_int Tryz.underlying3 h
  simp at e
  exact ⟨a, e⟩
end
end Go.Proofs.YtnmaknnnmjfhkafGreat

namespace Go.Proofs.YtnmaknnnmjfhkafGreat
open Go.RowKit Go.ChangeShapes Go.WideShapes Go.Deep Go.Joins
set_option linter.unusedVariables false
set_option linter.unusedSimpArgs false
section
variable {H : Type} {enc : TypeId × Value → H} {w : World} {base : Nat} {spare : Nat → Bool} {held : Bool}
theorem openR {P : Program} {t : TypeId} {f0 f1 f2 f3 : Field} {n : Nat} {cs : List Value} {x : DataW H × List MemPlace} (hs : P.underlying t = some (.struct #[f0, f1, f2, f3])) (o0 : f0.offset = 0) (o1 : f1.offset = 1) (o2 : f2.offset = 2) (o3 : f3.offset = 3) (k0 : P.cellsOf f0.type = 1) (k1 : P.cellsOf f1.type = 1) (k2 : P.cellsOf f2.type = 1) (k3 : P.cellsOf f3.type = 1) (hC : P.cellsOf t = 4) (h : DataW.trod enc P w base spare held n t cs = some x) :
    ∃ (c0 c1 c2 c3 : Value) (y0 y1 y2 y3 : DataW H × List MemPlace) (m : Nat), cs = [c0, c1, c2, c3] ∧ DataW.trod enc P w base spare held m f0.type [c0] = some y0 ∧ DataW.trod enc P w base spare held m f1.type [c1] = some y1 ∧ DataW.trod enc P w base spare held m f2.type [c2] = some y2 ∧ DataW.trod enc P w base spare held m f3.type [c3] = some y3 := by
  obtain ⟨xs, m, _, _, hl, hxl, hf⟩ := DataW.trod_struct hs h
  rw [hC] at hl
  match cs, hl, xs, hxl with
  | [c0, c1, c2, c3], _, [y0, y1, y2, y3], _ =>
    have g0 := hf 0 f0 rfl
    rw [o0, k0] at g0
    have g1 := hf 1 f1 rfl
    rw [o1, k1] at g1
    have g2 := hf 2 f2 rfl
    rw [o2, k2] at g2
    have g3 := hf 3 f3 rfl
    rw [o3, k3] at g3
    exact ⟨c0, c1, c2, c3, y0, y1, y2, y3, m, rfl, g0, g1, g2, g3⟩
theorem openT {P : Program} {t : TypeId} {f0 f1 f2 f3 f4 f5 f6 : Field} {n : Nat} {cs : List Value} {x : DataW H × List MemPlace} (hs : P.underlying t = some (.struct #[f0, f1, f2, f3, f4, f5, f6])) (o0 : f0.offset = 0) (o1 : f1.offset = 1) (o2 : f2.offset = 2) (o3 : f3.offset = 3) (o4 : f4.offset = 7) (o5 : f5.offset = 8) (o6 : f6.offset = 9) (k0 : P.cellsOf f0.type = 1) (k1 : P.cellsOf f1.type = 1) (k2 : P.cellsOf f2.type = 1) (k3 : P.cellsOf f3.type = 4) (k4 : P.cellsOf f4.type = 1) (k5 : P.cellsOf f5.type = 1) (k6 : P.cellsOf f6.type = 1) (hC : P.cellsOf t = 10) (h : DataW.trod enc P w base spare held n t cs = some x) :
    ∃ (c0 c1 c2 c3 c4 c5 c6 c7 c8 c9 : Value) (y0 y1 y2 y3 y4 y5 y6 : DataW H × List MemPlace) (m : Nat), cs = [c0, c1, c2, c3, c4, c5, c6, c7, c8, c9] ∧ DataW.trod enc P w base spare held m f0.type [c0] = some y0 ∧ DataW.trod enc P w base spare held m f1.type [c1] = some y1 ∧ DataW.trod enc P w base spare held m f2.type [c2] = some y2 ∧ DataW.trod enc P w base spare held m f3.type [c3, c4, c5, c6] = some y3 ∧ DataW.trod enc P w base spare held m f4.type [c7] = some y4 ∧ DataW.trod enc P w base spare held m f5.type [c8] = some y5 ∧ DataW.trod enc P w base spare held m f6.type [c9] = some y6 := by
  obtain ⟨xs, m, _, _, hl, hxl, hf⟩ := DataW.trod_struct hs h
  rw [hC] at hl
  match cs, hl, xs, hxl with
  | [c0, c1, c2, c3, c4, c5, c6, c7, c8, c9], _, [y0, y1, y2, y3, y4, y5, y6], _ =>
    have g0 := hf 0 f0 rfl
    rw [o0, k0] at g0
    have g1 := hf 1 f1 rfl
    rw [o1, k1] at g1
    have g2 := hf 2 f2 rfl
    rw [o2, k2] at g2
    have g3 := hf 3 f3 rfl
    rw [o3, k3] at g3
    have g4 := hf 4 f4 rfl
    rw [o4, k4] at g4
    have g5 := hf 5 f5 rfl
    rw [o5, k5] at g5
    have g6 := hf 6 f6 rfl
    rw [o6, k6] at g6
    exact ⟨c0, c1, c2, c3, c4, c5, c6, c7, c8, c9, y0, y1, y2, y3, y4, y5, y6, m, rfl, g0, g1, g2, g3, g4, g5, g6⟩
theorem root_of_trod {n : Nat} {cs : List Value} {x : DataW H × List MemPlace} (h : DataW.trod enc Tryz.prog w base spare held n 23 cs = some x) : ∃ T Hh F R, cs = [.int .i64 T, .int .i64 Hh, .int .i64 F, .int .i64 R] := by
  obtain ⟨c0, c1, c2, c3, y0, y1, y2, y3, m, rfl, g0, g1, g2, g3⟩ := openR Tryz.underlying23 rfl rfl rfl rfl (by kernel_rfl) (by kernel_rfl) (by kernel_rfl) (by kernel_rfl) (by kernel_rfl) h
  obtain ⟨a0, rfl⟩ := int_of_trod g0
  obtain ⟨a1, rfl⟩ := int_of_trod g1
  obtain ⟨a2, rfl⟩ := int_of_trod g2
  obtain ⟨a3, rfl⟩ := int_of_trod g3
  exact ⟨a0, a1, a2, a3, rfl⟩
theorem store_of_trod {n : Nat} {cs : List Value} {x : DataW H × List MemPlace} (h : DataW.trod enc Tryz.prog w base spare held n 28 cs = some x) : ∃ W S L T Hh F R U O a rs c, cs = [.int .i64 W, .int .i64 S, .int .i64 L, .int .i64 T, .int .i64 Hh, .int .i64 F, .int .i64 R, .int .i64 U, .int .i64 O, .slice a rs.length c] ∧ Prs w a rs ∧ rs.length ≤ maxLen ∧ (∀ s ∈ rs, s.1.size ≤ maxLen ∧ s.2.size ≤ maxLen) := by
  obtain ⟨c0, c1, c2, c3, c4, c5, c6, c7, c8, c9, y0, y1, y2, y3, y4, y5, y6, m, rfl, g0, g1, g2, g3, g4, g5, g6⟩ := openT Tryz.underlying28 rfl rfl rfl rfl rfl rfl rfl (by kernel_rfl) (by kernel_rfl) (by kernel_rfl) (by kernel_rfl) (by kernel_rfl) (by kernel_rfl) (by kernel_rfl) (by kernel_rfl) h
  obtain ⟨a0, rfl⟩ := int_of_trod g0
  obtain ⟨a1, rfl⟩ := int_of_trod g1
  obtain ⟨a2, rfl⟩ := int_of_trod g2
  obtain ⟨T, Hh, F, R, e3⟩ := root_of_trod g3
  obtain ⟨a4, rfl⟩ := int_of_trod g4
  obtain ⟨a5, rfl⟩ := int_of_trod g5
  obtain ⟨a, rs, c, e6, h1, h2, h3⟩ := state_of_trod g6
  simp only [List.cons.injEq, and_true] at e3 e6
  obtain ⟨rfl, rfl, rfl, rfl⟩ := e3
  subst e6
  exact ⟨a0, a1, a2, T, Hh, F, R, a4, a5, a, rs, c, rfl, h1, h2, h3⟩
end
end Go.Proofs.YtnmaknnnmjfhkafGreat

namespace Go.Proofs.YtnmaknnnmjfhkafGreat
open Go.RowKit
set_option maxRecDepth 8000
set_option linter.unusedVariables false
set_option linter.unusedSimpArgs false

/-- A block with these cells ahead. -/
structure Boxd (w : World) (B : Nat) (cs : List Value) : Prop where
  lt : B < w.heap.size
  cell : ∀ i v, cs[i]? = some v → w.cell? ⟨B, i, none⟩ = some v
theorem Boxd.below {w w' : World} {B : Nat} {cs : List Value} (h : Boxd w B cs) (hb : Below w.heap.size w w') : Boxd w' B cs :=
  ⟨Nat.lt_of_lt_of_le h.lt hb.size, fun i v hv => (hb.cell (p := ⟨B, i, none⟩) h.lt).trans (h.cell i v hv)⟩
theorem Boxd.grown {w w' : World} {B : Nat} {cs : List Value} {r : Option Nat} (h : Boxd w B cs) (hg : w.grownBy w' r) (hn : some B ≠ r) : Boxd w' B cs :=
  ⟨Nat.lt_of_lt_of_le h.lt hg.size, fun i v hv => (World.cell?_of_block (a := ⟨B, i, none⟩) (hg.block B h.lt hn)).trans (h.cell i v hv)⟩
theorem Boxd.new (w : World) (cs : Array Value) (t : TypeId) : Boxd (w.alloc (.cells cs t)) w.heap.size cs.toList :=
  ⟨by simp, fun i v hv => by rw [World.cell?_alloc_at _ _ _ _ rfl]; simpa using hv⟩
def dcells (d : Dd) (a : Option Addr) (c : Nat) (b : Option Addr) (e : Nat) : List Value := [.int .i64 d.C, .int .i64 d.W, .int .i64 d.S, .int .i64 d.L, .int .i64 d.T, .int .i64 d.H, .int .i64 d.F, .int .i64 d.R, .int .i64 d.U, .int .i64 d.O, .slice a d.rs.length c, .slice b d.ops.length e]
/-- A variable that holds what a call of the store came to, and its lists. -/
structure DnBox (w : World) (B : Nat) (d : Dd) (a b : Option Addr) (c e lo hi : Nat) : Prop where
  box : Boxd w B (dcells d a c b e)
  own : OwnDn w d.rs d.ops a b
  one : ∀ g, blk a d.rs.length = some g → lo ≤ g ∧ g < hi
  two : ∀ g, blk b d.ops.length = some g → lo ≤ g ∧ g < hi
theorem DnBox.below {w w' : World} {B : Nat} {d : Dd} {a b : Option Addr} {c e lo hi : Nat} (h : DnBox w B d a b c e lo hi) (hb : Below w.heap.size w w') : DnBox w' B d a b c e lo hi := ⟨h.box.below hb, h.own.below hb, h.one, h.two⟩
theorem DnBox.grown {w w' : World} {B : Nat} {d : Dd} {a b : Option Addr} {c e lo hi : Nat} {r : Option Nat} (h : DnBox w B d a b c e lo hi) (hg : w.grownBy w' r) (hr : ∀ g, r = some g → (g < lo ∨ hi ≤ g) ∧ g ≠ B) : DnBox w' B d a b c e lo hi := by
  refine ⟨h.box.grown hg (fun e => (hr B e.symm).2 rfl), ⟨h.own.s.grown hg (fun g hg' hne e => ?_), h.own.p.grown hg (fun g hg' hne e => ?_), h.own.ne⟩, h.one, h.two⟩
  · subst hg'
    have h1 := h.one g (blk_pos g 0 _ (ne_of_prcells hne))
    have h2 := (hr g e.symm).1
    omega
  · subst hg'
    have h1 := h.two g (blk_pos g 0 _ (ne_of_opcells hne))
    have h2 := (hr g e.symm).1
    omega
theorem dnbox_new {w0 w : World} {d : Dd} {a b : Option Addr} {c e : Nat} (t : TypeId) (ho : OwnDn w d.rs d.ops a b) (h1 : ∀ g, blk a d.rs.length = some g → w0.heap.size ≤ g) (h2 : ∀ g, blk b d.ops.length = some g → w0.heap.size ≤ g) : DnBox (w.alloc (.cells (dcells d a c b e).toArray t)) w.heap.size d a b c e w0.heap.size w.heap.size :=
  ⟨Boxd.new w _ t, ho.below ((Below.refl _ _).alloc (Nat.le_refl _) _), fun g hg => ⟨h1 g hg, ho.s.lt _ prcells_ne g hg⟩, fun g hg => ⟨h2 g hg, ho.p.lt _ opcells_ne g hg⟩⟩
/-- A variable that holds a store, and its pairs. -/
structure StBox (w : World) (B g : Nat) (cs : List Value) (rs : List Pr) : Prop where
  box : Boxd w B cs
  row : Row w g (prcells rs)
theorem StBox.below {w w' : World} {B g : Nat} {cs : List Value} {rs : List Pr} (h : StBox w B g cs rs) (hb : Below w.heap.size w w') : StBox w' B g cs rs := ⟨h.box.below hb, h.row.below hb⟩
theorem blk_one {g n k : Nat} (h : blk (some ⟨g, 0, none⟩) n = some k) : k = g := by
  unfold blk at h
  split at h
  · cases h
  · simp at h; exact h.symm
end Go.Proofs.YtnmaknnnmjfhkafGreat
