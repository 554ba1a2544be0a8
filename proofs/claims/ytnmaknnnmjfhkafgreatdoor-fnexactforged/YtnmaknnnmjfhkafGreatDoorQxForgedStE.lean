import Derived.Test.YtnmaknnnmjfhkafGreatDoorQxForgedStV
import Derived.Test.YtnmaknnnmjfhkafGreatDoorMgXForged4
namespace Go.Proofs.YtnmaknnnmjfhkafGreatDoor
open Go.RowKit
set_option linter.unusedVariables false
set_option linter.unusedSimpArgs false
set_option maxRecDepth 8000

theorem eqroot' (t h f l : Int) (w : World) : Calls Tryz.prog 81 #[.agg #[.int .i64 t, .int .i64 h, .int .i64 f, .int .i64 l], .agg #[.int .i64 t, .int .i64 h, .int .i64 f, .int .i64 l]] w fun e w' => e = .returned (.bool true) ∧ Below w.heap.size w w' := by
  go_enter Tryz.func81, Tryz.ntmps81
  go_wp2
  all_goals go_ret
  all_goals exact ⟨rfl, ((Below.refl _ _).alloc (Nat.le_refl _) _).alloc (by simp) _⟩

set_option maxHeartbeats 8000000 in
theorem eq_store (W S L T H F R U O : Int) (a b : Option Addr) (rs : List (ByteArray × ByteArray)) (c d : Nat) (w : World) (h1 : Prs w a rs) (h2 : Prs w b rs) (hl : rs.length ≤ 1048576) :
    Calls Tryz.prog 34 #[storeV W S L T H F R U O a rs.length c, storeV W S L T H F R U O b rs.length d] w fun e w' => e = .returned (.bool true) ∧ Below w.heap.size w w' := by
  unfold storeV
  have hb0 : ∀ o1 o2, Below w.heap.size w ((w.alloc o1).alloc o2) := fun o1 o2 => ((Below.refl _ _).alloc (Nat.le_refl _) _).alloc (by simp) _
  go_enter Tryz.func34, Tryz.ntmps34
  go_wp2_with (first | (go_at_call 81; refine (eqroot' T H F R _).mono ?_; rintro e w1 ⟨rfl, hb1⟩; have HB1 := hid ((hb0 _ _).trans (hb1.mono (by simp <;> omega))); have w1p7 : w1.cell? ⟨w.heap.size, 7, none⟩ = some (.int .i64 U) := (hb1.cell (p := ⟨w.heap.size, 7, none⟩) (by simp <;> omega)).trans (by go_simp); have w1p8 : w1.cell? ⟨w.heap.size, 8, none⟩ = some (.int .i64 O) := (hb1.cell (p := ⟨w.heap.size, 8, none⟩) (by simp <;> omega)).trans (by go_simp); have w1p9 : w1.cell? ⟨w.heap.size, 9, none⟩ = some (.slice a rs.length c) := (hb1.cell (p := ⟨w.heap.size, 9, none⟩) (by simp <;> omega)).trans (by go_simp); have w1q7 : w1.cell? ⟨w.heap.size + 1, 7, none⟩ = some (.int .i64 U) := (hb1.cell (p := ⟨w.heap.size + 1, 7, none⟩) (by simp <;> omega)).trans (by go_simp); have w1q8 : w1.cell? ⟨w.heap.size + 1, 8, none⟩ = some (.int .i64 O) := (hb1.cell (p := ⟨w.heap.size + 1, 8, none⟩) (by simp <;> omega)).trans (by go_simp); have w1q9 : w1.cell? ⟨w.heap.size + 1, 9, none⟩ = some (.slice b rs.length d) := (hb1.cell (p := ⟨w.heap.size + 1, 9, none⟩) (by simp <;> omega)).trans (by go_simp); clear hb1) | (go_at_call 82; refine (eq_state a b rs c d _ (h1.below HB1.out) (h2.below HB1.out) hl).mono ?_; rintro e w2 ⟨rfl, hb2⟩))
  go_ret
  exact ⟨rfl, HB1.out.trans (hb2.mono HB1.out.size)⟩
end Go.Proofs.YtnmaknnnmjfhkafGreatDoor
