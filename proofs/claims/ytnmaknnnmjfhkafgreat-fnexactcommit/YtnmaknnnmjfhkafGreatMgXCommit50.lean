import Derived.Test.YtnmaknnnmjfhkafGreatMgXCommit10
import Derived.Test.YtnmaknnnmjfhkafGreatMgXCommit49
import Derived.Deep.Slices
import Derived.ProofKit
import Derived.ChangeOld
import Derived.Lib.SmallJoins
import Derived.Test.YtnmaknnnmjfhkafGreatProg

set_option maxHeartbeats 16000000
set_option maxRecDepth 8000
namespace Go.Proofs.YtnmaknnnmjfhkafGreat
open Go.RowKit Go.ChangeShapes Go.WideShapes Go.Deep
section
variable {H : Type} {enc : TypeId × Value → H} {P : Program} {w : World} {base : Nat} {spare : Nat → Bool} {held : Bool}
theorem prs_of_trod {t e : TypeId} {f0 f1 : Field} {fuel : Nat} {v : Value} {x : DataW H × List MemPlace} (ht : P.underlying t = some (.slice e)) (he : P.underlying e = some (.struct #[f0, f1]))
    (ce : P.cellsOf e = 2) (o0 : f0.offset = 0) (o1 : f1.offset = 1) (c0 : P.cellsOf f0.type = 1) (c1 : P.cellsOf f1.type = 1) (t0 : P.underlying f0.type = some .string) (t1 : P.underlying f1.type = some .string)
    (h : DataW.trod enc P w base spare held fuel t [v] = some x) : ∃ a rs c, v = .slice a rs.length c ∧ Prs w a rs ∧ rs.length ≤ maxLen ∧ (∀ s ∈ rs, s.1.size ≤ maxLen ∧ s.2.size ≤ maxLen) := by
  rcases open_slice ht h with ⟨hcs, _⟩ | ⟨a, len, cap, m, n, D, Pl, hcs, hb, hl, hm, hmm, _, hx⟩
  · simp at hcs
    exact ⟨none, [], 0, by simpa using hcs, .inl rfl, by simp, by simp⟩
  · simp at hcs
    have hlm : len ≤ m := by rw [hmm]; split <;> omega
    have each : ∀ i, i < len → ∃ q : ByteArray × ByteArray, w.cell? (a.add (i * 2)) = some (.string q.1) ∧ w.cell? (a.add (i * 2 + 1)) = some (.string q.2) ∧ q.1.size ≤ maxLen ∧ q.2.size ≤ maxLen := by
      intro i hi
      obtain ⟨cs', h1, h2⟩ := hx i (by omega)
      rw [ce] at h1
      obtain ⟨_, hlen, hcell⟩ := World.cells?_some h1
      obtain ⟨xs, k, hk, hxy, _, hxl, hf⟩ := DataW.trod_struct he h2
      match xs, hxl, cs', hlen with
      | [y0, y1], _, [v0, v1], _ =>
        have g0 := hf 0 f0 rfl
        have g1 := hf 1 f1 rfl
        simp [o0, o1, c0, c1] at g0 g1
        have e0 := hcell 0 (by omega)
        have e1 := hcell 1 (by omega)
        rw [add_add] at e0 e1
        obtain ⟨z0, ez0, _, wz0⟩ := DataW.trod_string t0 g0
        simp at ez0
        subst ez0
        obtain ⟨z1, ez1, _, wz1⟩ := DataW.trod_string t1 g1
        simp at ez1
        subst ez1
        exact ⟨(z0, z1), by simpa using e0, by simpa using e1, wz0, wz1⟩
    obtain ⟨q, hq⟩ := choose_lt each
    have e1 : ((List.range len).map q).length = len := by simp
    refine ⟨some a, (List.range len).map q, cap, by rw [e1]; exact hcs, ?_, by omega, fun s hs => ?_⟩
    · by_cases h0 : len = 0
      · exact .inl (by subst h0; simp)
      · have hq0 := (hq 0 (by omega)).1
        obtain ⟨b, o, rfl⟩ := add_none hq0 ⟨_, hq0⟩
        have hb := World.block_lt_of_cell? w _ hq0
        rw [add_mk] at hb
        refine .inr ⟨b, o, rfl, hb, fun i hi => ?_⟩
        rw [e1] at hi
        obtain ⟨h0, h1, _⟩ := hq i hi
        rw [add_mk] at h0 h1
        have eg : ((List.range len).map q).getD i (ByteArray.empty, ByteArray.empty) = q i := by simp [List.getD, hi]
        rw [eg]
        exact ⟨h0, by rw [Nat.add_assoc]; exact h1⟩
    · obtain ⟨i, hi, rfl⟩ := List.mem_map.1 hs
      exact (hq i (by simpa using hi)).2.2
end
end Go.Proofs.YtnmaknnnmjfhkafGreat

namespace Go.Proofs.YtnmaknnnmjfhkafGreat
open Go.RowKit Go.ChangeShapes Go.WideShapes Go.Deep Go.Joins
section
variable {H : Type} {enc : TypeId × Value → H} {P : Program} {w : World} {base : Nat} {spare : Nat → Bool} {held : Bool}
theorem open_agg1' {r : Reach} {b0 : Nat} {t : TypeId} {f0 : Field} {v : Value} {d : DataW H} {p : List MemPlace} (hs : P.underlying t = some (.struct #[f0])) (o0 : f0.offset = 0) (k0 : P.cellsOf f0.type = 1) (hC : P.cellsOf t = 1)
    (hv : Value.okWide P w r b0 t v) (h : DataW.Trod enc P w base spare held t v d p) :
    ∃ (v0 : Value) (y0 : DataW H × List MemPlace) (n : Nat), v = .agg #[v0] ∧ DataW.trod enc P w base spare held n f0.type [v0] = some y0 := by
  obtain ⟨cs, rfl, hsz⟩ := okWide_struct hs hv
  obtain ⟨c0, rfl⟩ : ∃ c0, cs = #[c0] := by
    have h1 : cs.size = 1 := hsz.trans hC
    exact Array.size_eq_one_iff.1 h1
  obtain ⟨fuel, hf⟩ := h
  obtain ⟨xs, k, hk, hxy, _, hxl, hf'⟩ := DataW.trod_struct hs hf
  match xs, hxl with
  | [y0], _ =>
    have g0 := hf' 0 f0 rfl
    simp [o0, k0, Value.cells] at g0
    exact ⟨c0, y0, k, rfl, g0⟩
end
end Go.Proofs.YtnmaknnnmjfhkafGreat

namespace Go.Proofs.YtnmaknnnmjfhkafGreat
open Go.RowKit Go.ChangeShapes Go.WideShapes Go.Deep Go.Joins
set_option linter.unusedVariables false
set_option linter.unusedSimpArgs false
section
variable {H : Type} {enc : TypeId × Value → H} {w : World} {base : Nat} {spare : Nat → Bool} {held : Bool}
theorem openS {P : Program} {t : TypeId} {f0 : Field} {n : Nat} {cs : List Value} {x : DataW H × List MemPlace} (hs : P.underlying t = some (.struct #[f0])) (o0 : f0.offset = 0) (k0 : P.cellsOf f0.type = 1) (hC : P.cellsOf t = 1) (h : DataW.trod enc P w base spare held n t cs = some x) :
    ∃ (c0 : Value) (y0 : DataW H × List MemPlace) (m : Nat), cs = [c0] ∧ DataW.trod enc P w base spare held m f0.type [c0] = some y0 := by
  obtain ⟨xs, m, _, _, hl, hxl, hf⟩ := DataW.trod_struct hs h
  rw [hC] at hl
  match cs, hl, xs, hxl with
  | [c0], _, [y0], _ =>
    have g0 := hf 0 f0 rfl
    rw [o0, k0] at g0
    exact ⟨c0, y0, m, rfl, g0⟩
theorem cells2' : Tryz.prog.cellsOf 126 = 2 := by kernel_rfl
theorem state_of_trod {n : Nat} {cs : List Value} {x : DataW H × List MemPlace} (h : DataW.trod enc Tryz.prog w base spare held n 26 cs = some x) : ∃ a rs c, cs = [.slice a rs.length c] ∧ Prs w a rs ∧ rs.length ≤ maxLen ∧ (∀ s ∈ rs, s.1.size ≤ maxLen ∧ s.2.size ≤ maxLen) := by
  obtain ⟨c0, y0, m, rfl, g0⟩ := openS Tryz.underlying26 rfl (by kernel_rfl) (by kernel_rfl) h
  obtain ⟨a, rs, c, rfl, h1, h2, h3⟩ := prs_of_trod Tryz.underlying24 Tryz.underlying126 cells2' rfl rfl (by kernel_rfl) (by kernel_rfl) Tryz.underlying9 Tryz.underlying9 g0
  exact ⟨a, rs, c, rfl, h1, h2, h3⟩
theorem int_of_trod {n : Nat} {v : Value} {x : DataW H × List MemPlace} (h : DataW.trod enc Tryz.prog w base spare held n 3 [v] = some x) : ∃ a, v = .int .i64 a := by
  obtain ⟨a, e, _, _⟩ := DataW.trod_int Tryz.underlying3 h
  simp at e
  exact ⟨a, e⟩
end
end Go.Proofs.YtnmaknnnmjfhkafGreat

namespace Go.Proofs.YtnmaknnnmjfhkafGreat
open Go.RowKit Go.ChangeShapes Go.WideShapes Go.Deep Go.Joins
set_option linter.unusedVariables false
set_option linter.unusedSimpArgs false
section
variable {H : Type} {enc : TypeId × Value → H} {w : World} {base : Nat} {spare : Nat → Bool} {held : Bool}
theorem openR {P : Program} {t : TypeId} {f0 f1 f2 f3 : Field} {n : Nat} {cs : List Value} {x : DataW H × List MemPlace} (hs : P.underlying t = some (.struct #[f0, f1, f2, f3])) (o0 : f0.offset = 0) (o1 : f1.offset = 1) (o2 : f2.offset = 2) (o3 : f3.offset = 3) (k0 : P.cellsOf f0.type = 1) (k1 : P.cellsOf f1.type = 1) (k2 : P.cellsOf f2.type = 1) (k3 : P.cellsOf f3.type = 1) (hC : P.cellsOf t = 4) (h : DataW.trod enc P w base spare held n t cs = some x) :
    ∃ (c0 c1 c2 c3 : Value) (y0 y1 y2 y3 : DataW H × List MemPlace) (m : Nat), cs = [c0, c1, c2, c3] ∧ DataW.trod enc P w base spare held m f0.type [c0] = some y0 ∧ DataW.trod enc P w base spare held m f1.type [c1] = some y1 ∧ DataW.trod enc P w base spare held m f2.type [c2] = some y2 ∧ DataW.trod enc P w base spare held m f3.type [c3] = some y3 := by
  obtain ⟨xs, m, _, _, hl, hxl, hf⟩ := DataW.trod_struct hs h
  rw [hC] at hl
  match cs, hl, xs, hxl with
  | [c0, c1, c2, c3], _, [y0, y1, y2, y3], _ =>
    have g0 := hf 0 f0 rfl
    rw [o0, k0] at g0
    have g1 := hf 1 f1 rfl
    rw [o1, k1] at g1
    have g2 := hf 2 f2 rfl
    rw [o2, k2] at g2
    have g3 := hf 3 f3 rfl
    rw [o3, k3] at g3
    exact ⟨c0, c1, c2, c3, y0, y1, y2, y3, m, rfl, g0, g1, g2, g3⟩
theorem openT {P : Program} {t : TypeId} {f0 f1 f2 f3 f4 f5 f6 : Field} {n : Nat} {cs : List Value} {x : DataW H × List MemPlace} (hs : P.underlying t = some (.struct #[f0, f1, f2, f3, f4, f5, f6])) (o0 : f0.offset = 0) (o1 : f1.offset = 1) (o2 : f2.offset = 2) (o3 : f3.offset = 3) (o4 : f4.offset = 7) (o5 : f5.offset = 8) (o6 : f6.offset = 9) (k0 : P.cellsOf f0.type = 1) (k1 : P.cellsOf f1.type = 1) (k2 : P.cellsOf f2.type = 1) (k3 : P.cellsOf f3.type = 4) (k4 : P.cellsOf f4.type = 1) (k5 : P.cellsOf f5.type = 1) (k6 : P.cellsOf f6.type = 1) (hC : P.cellsOf t = 10) (h : DataW.trod enc P w base spare held n t cs = some x) :
    ∃ (c0 c1 c2 c3 c4 c5 c6 c7 c8 c9 : Value) (y0 y1 y2 y3 y4 y5 y6 : DataW H × List MemPlace) (m : Nat), cs = [c0, c1, c2, c3, c4, c5, c6, c7, c8, c9] ∧ DataW.trod enc P w base spare held m f0.type [c0] = some y0 ∧ DataW.trod enc P w base spare held m f1.type [c1] = some y1 ∧ DataW.trod enc P w base spare held m f2.type [c2] = some y2 ∧ DataW.trod enc P w base spare held m f3.type [c3, c4, c5, c6] = some y3 ∧ DataW.trod enc P w base spare held m f4.type [c7] = some y4 ∧ DataW.trod enc P w base spare held m f5.type [c8] = some y5 ∧ DataW.trod enc P w base spare held m f6.type [c9] = some y6 := by
  obtain ⟨xs, m, _, _, hl, hxl, hf⟩ := DataW.trod_struct hs h
  rw [hC] at hl
  match cs, hl, xs, hxl with
  | [c0, c1, c2, c3, c4, c5, c6, c7, c8, c9], _, [y0, y1, y2, y3, y4, y5, y6], _ =>
    have g0 := hf 0 f0 rfl
    rw [o0, k0] at g0
    have g1 := hf 1 f1 rfl
    rw [o1, k1] at g1
    have g2 := hf 2 f2 rfl
    rw [o2, k2] at g2
    have g3 := hf 3 f3 rfl
    rw [o3, k3] at g3
    have g4 := hf 4 f4 rfl
    rw [o4, k4] at g4
    have g5 := hf 5 f5 rfl
    rw [o5, k5] at g5
    have g6 := hf 6 f6 rfl
    rw [o6, k6] at g6
    exact ⟨c0, c1, c2, c3, c4, c5, c6, c7, c8, c9, y0, y1, y2, y3, y4, y5, y6, m, rfl, g0, g1, g2, g3, g4, g5, g6⟩
theorem root_of_trod {n : Nat} {cs : List Value} {x : DataW H × List MemPlace} (h : DataW.trod enc Tryz.prog w base spare held n 23 cs = some x) : ∃ T Hh F R, cs = [.int .i64 T, .int .i64 Hh, .int .i64 F, .int .i64 R] := by
  obtain ⟨c0, c1, c2, c3, y0, y1, y2, y3, m, rfl, g0, g1, g2, g3⟩ := openR Tryz.underlying23 rfl rfl rfl rfl (by kernel_rfl) (by kernel_rfl) (by kernel_rfl) (by kernel_rfl) (by kernel_rfl) h
  obtain ⟨a0, rfl⟩ := int_of_trod g0
  obtain ⟨a1, rfl⟩ := int_of_trod g1
  obtain ⟨a2, rfl⟩ := int_of_trod g2
  obtain ⟨a3, rfl⟩ := int_of_trod g3
  exact ⟨a0, a1, a2, a3, rfl⟩
theorem store_of_trod {n : Nat} {cs : List Value} {x : DataW H × List MemPlace} (h : DataW.trod enc Tryz.prog w base spare held n 28 cs = some x) : ∃ W S L T Hh F R U O a rs c, cs = [.int .i64 W, .int .i64 S, .int .i64 L, .int .i64 T, .int .i64 Hh, .int .i64 F, .int .i64 R, .int .i64 U, .int .i64 O, .slice a rs.length c] ∧ Prs w a rs ∧ rs.length ≤ maxLen ∧ (∀ s ∈ rs, s.1.size ≤ maxLen ∧ s.2.size ≤ maxLen) := by
  obtain ⟨c0, c1, c2, c3, c4, c5, c6, c7, c8, c9, y0, y1, y2, y3, y4, y5, y6, m, rfl, g0, g1, g2, g3, g4, g5, g6⟩ := openT Tryz.underlying28 rfl rfl rfl rfl rfl rfl rfl (by kernel_rfl) (by kernel_rfl) (by kernel_rfl) (by kernel_rfl) (by kernel_rfl) (by kernel_rfl) (by kernel_rfl) (by kernel_rfl) h
  obtain ⟨a0, rfl⟩ := int_of_trod g0
  obtain ⟨a1, rfl⟩ := int_of_trod g1
  obtain ⟨a2, rfl⟩ := int_of_trod g2
  obtain ⟨T, Hh, F, R, e3⟩ := root_of_trod g3
  obtain ⟨a4, rfl⟩ := int_of_trod g4
  obtain ⟨a5, rfl⟩ := int_of_trod g5
  obtain ⟨a, rs, c, e6, h1, h2, h3⟩ := state_of_trod g6
  simp only [List.cons.injEq, and_true] at e3 e6
  obtain ⟨rfl, rfl, rfl, rfl⟩ := e3
  subst e6
  exact ⟨a0, a1, a2, T, Hh, F, R, a4, a5, a, rs, c, rfl, h1, h2, h3⟩
end
end Go.Proofs.YtnmaknnnmjfhkafGreat
