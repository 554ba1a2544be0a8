import Derived.Test.YtnmaknnnmjfhkafGreatDoorQxForgedWoB
import Derived.Test.YtnmaknnnmjfhkafGreatDoorQxForgedStD
import Derived.Test.YtnmaknnnmjfhkafGreatDoorMgXForged50
import Derived.Deep.Slices
import Derived.ProofKit
import Derived.ChangeOld
namespace Go.Proofs.YtnmaknnnmjfhkafGreatDoor
open Go.RowKit Go.ChangeShapes Go.WideShapes Go.Deep Go.Joins
set_option linter.unusedVariables false
set_option linter.unusedSimpArgs false
section
variable {H : Type} {enc : TypeId × Value → H} {w : World} {base : Nat} {spare : Nat → Bool} {held : Bool}
theorem openD {P : Program} {t : TypeId} {f0 f1 : Field} {n : Nat} {cs : List Value} {x : DataW H × List MemPlace} (hs : P.underlying t = some (.struct #[f0, f1])) (o0 : f0.offset = 0) (o1 : f1.offset = 1) (k0 : P.cellsOf f0.type = 1) (k1 : P.cellsOf f1.type = 1) (hC : P.cellsOf t = 2) (h : DataW.trod enc P w base spare held n t cs = some x) :
    ∃ (c0 c1 : Value) (y0 y1 : DataW H × List MemPlace) (m : Nat), cs = [c0, c1] ∧ DataW.trod enc P w base spare held m f0.type [c0] = some y0 ∧ DataW.trod enc P w base spare held m f1.type [c1] = some y1 := by
  obtain ⟨xs, m, _, _, hl, hxl, hf⟩ := DataW.trod_struct hs h
  rw [hC] at hl
  match cs, hl, xs, hxl with
  | [c0, c1], _, [y0, y1], _ =>
    have g0 := hf 0 f0 rfl
    rw [o0, k0] at g0
    have g1 := hf 1 f1 rfl
    rw [o1, k1] at g1
    exact ⟨c0, c1, y0, y1, m, rfl, g0, g1⟩
theorem openW {P : Program} {t : TypeId} {f0 f1 f2 f3 f4 f5 : Field} {n : Nat} {cs : List Value} {x : DataW H × List MemPlace} (hs : P.underlying t = some (.struct #[f0, f1, f2, f3, f4, f5])) (o0 : f0.offset = 0) (o1 : f1.offset = 1) (o2 : f2.offset = 3) (o3 : f3.offset = 4) (o4 : f4.offset = 14) (o5 : f5.offset = 15) (k0 : P.cellsOf f0.type = 1) (k1 : P.cellsOf f1.type = 2) (k2 : P.cellsOf f2.type = 1) (k3 : P.cellsOf f3.type = 10) (k4 : P.cellsOf f4.type = 1) (k5 : P.cellsOf f5.type = 1) (hC : P.cellsOf t = 16) (h : DataW.trod enc P w base spare held n t cs = some x) :
    ∃ (c0 c1 c2 c3 c4 c5 c6 c7 c8 c9 c10 c11 c12 c13 c14 c15 : Value) (y0 y1 y2 y3 y4 y5 : DataW H × List MemPlace) (m : Nat), cs = [c0, c1, c2, c3, c4, c5, c6, c7, c8, c9, c10, c11, c12, c13, c14, c15] ∧ DataW.trod enc P w base spare held m f0.type [c0] = some y0 ∧ DataW.trod enc P w base spare held m f1.type [c1, c2] = some y1 ∧ DataW.trod enc P w base spare held m f2.type [c3] = some y2 ∧ DataW.trod enc P w base spare held m f3.type [c4, c5, c6, c7, c8, c9, c10, c11, c12, c13] = some y3 ∧ DataW.trod enc P w base spare held m f4.type [c14] = some y4 ∧ DataW.trod enc P w base spare held m f5.type [c15] = some y5 := by
  obtain ⟨xs, m, _, _, hl, hxl, hf⟩ := DataW.trod_struct hs h
  rw [hC] at hl
  match cs, hl, xs, hxl with
  | [c0, c1, c2, c3, c4, c5, c6, c7, c8, c9, c10, c11, c12, c13, c14, c15], _, [y0, y1, y2, y3, y4, y5], _ =>
    have g0 := hf 0 f0 rfl
    rw [o0, k0] at g0
    have g1 := hf 1 f1 rfl
    rw [o1, k1] at g1
    have g2 := hf 2 f2 rfl
    rw [o2, k2] at g2
    have g3 := hf 3 f3 rfl
    rw [o3, k3] at g3
    have g4 := hf 4 f4 rfl
    rw [o4, k4] at g4
    have g5 := hf 5 f5 rfl
    rw [o5, k5] at g5
    exact ⟨c0, c1, c2, c3, c4, c5, c6, c7, c8, c9, c10, c11, c12, c13, c14, c15, y0, y1, y2, y3, y4, y5, m, rfl, g0, g1, g2, g3, g4, g5⟩
theorem cells1w : Tryz.prog.cellsOf 9 = 1 := by kernel_rfl
theorem cells2w : Tryz.prog.cellsOf 173 = 2 := by kernel_rfl
theorem cells1s : Tryz.prog.cellsOf 30 = 1 := by kernel_rfl
theorem disk_of_trod {n : Nat} {cs : List Value} {x : DataW H × List MemPlace} (h : DataW.trod enc Tryz.prog w base spare held n 25 cs = some x) : ∃ a ss c a' ws c', cs = [.slice a ss.length c, .slice a' (List.length ws) c'] ∧ Strs w a ss ∧ ss.length ≤ maxLen ∧ (∀ s ∈ ss, s.size ≤ maxLen) ∧ Wrs w a' ws ∧ ws.length ≤ maxLen ∧ (∀ s ∈ ws, s.2.size ≤ maxLen) := by
  obtain ⟨c0, c1, y0, y1, m, rfl, g0, g1⟩ := openD Tryz.underlying25 rfl rfl (by kernel_rfl) (by kernel_rfl) (by kernel_rfl) h
  obtain ⟨a, ss, c, rfl, h1, h2, h3⟩ := strs_of_trod Tryz.underlying22 Tryz.underlying9 cells1w g0
  obtain ⟨a', ws, c', rfl, k1, k2, k3, _⟩ := wrs_of_trod Tryz.underlying23 Tryz.underlying173 cells2w rfl rfl (by kernel_rfl) (by kernel_rfl) Tryz.underlying3 Tryz.underlying9 g1
  exact ⟨a, ss, c, a', ws, c', rfl, h1, h2, h3, k1, k2, k3⟩
theorem bool_of_trod {n : Nat} {v : Value} {x : DataW H × List MemPlace} (h : DataW.trod enc Tryz.prog w base spare held n 4 [v] = some x) : ∃ b, v = .bool b := by
  obtain ⟨z, e, _⟩ := DataW.trod_bool Tryz.underlying4 h
  simp at e
  exact ⟨z, e⟩
theorem pst_of_trod {fuel : Nat} {v : Value} {x : DataW H × List MemPlace} (h : DataW.trod enc Tryz.prog w base spare held fuel 33 [v] = some x) : ∃ a P c, v = .slice a (List.length P) c ∧ Pst w a P ∧ P.length ≤ maxLen ∧ (∀ rs ∈ P, rs.length ≤ maxLen ∧ ∀ s ∈ rs, s.1.size ≤ maxLen ∧ s.2.size ≤ maxLen) := by
  rcases open_slice Tryz.underlying33 h with ⟨hcs, _⟩ | ⟨a, len, cap, m, n, D, Pl, hcs, hb, hl, hm, hmm, _, hx⟩
  · simp at hcs
    exact ⟨none, [], 0, by simpa using hcs, .inl rfl, by simp, by simp⟩
  · simp at hcs
    have hlm : len ≤ m := by rw [hmm]; split <;> omega
    have each : ∀ i, i < len → ∃ q : List (ByteArray × ByteArray) × Option Addr × Nat, w.cell? (a.add i) = some (.slice q.2.1 q.1.length q.2.2) ∧ Prs w q.2.1 q.1 ∧ q.1.length ≤ maxLen ∧ (∀ s ∈ q.1, s.1.size ≤ maxLen ∧ s.2.size ≤ maxLen) := by
      intro i hi
      obtain ⟨cs', h1, h2⟩ := hx i (by omega)
      rw [cells1s] at h1
      obtain ⟨_, hlen, hcell⟩ := World.cells?_some h1
      obtain ⟨p, rs, c, rfl, k1, k2, k3⟩ := state_of_trod h2
      have e0 := hcell 0 (by omega)
      rw [add_add] at e0
      exact ⟨(rs, p, c), by simpa using e0, k1, k2, k3⟩
    obtain ⟨q, hq⟩ := choose_lt each
    have e1 : ((List.range len).map fun i => (q i).1).length = len := by simp
    refine ⟨some a, (List.range len).map fun i => (q i).1, cap, by rw [e1]; exact hcs, ?_, by omega, fun rs hs => ?_⟩
    · by_cases h0 : len = 0
      · exact .inl (by subst h0; simp)
      · have hq0 := (hq 0 (by omega)).1
        obtain ⟨b, o, rfl⟩ := add_none hq0 ⟨_, hq0⟩
        have hb := World.block_lt_of_cell? w _ hq0
        rw [add_mk] at hb
        refine .inr ⟨b, o, rfl, hb, fun i hi => ?_⟩
        rw [e1] at hi
        obtain ⟨h0, h1, _⟩ := hq i hi
        rw [add_mk] at h0
        have eg : ((List.range len).map fun i => (q i).1).getD i [] = (q i).1 := by simp [List.getD, hi]
        rw [eg]
        exact ⟨_, _, h0, h1⟩
    · obtain ⟨i, hi, rfl⟩ := List.mem_map.1 hs
      exact (hq i (by simpa using hi)).2.2
theorem world_of_trod {n : Nat} {cs : List Value} {y : DataW H × List MemPlace} (h : DataW.trod enc Tryz.prog w base spare held n 35 cs = some y) : ∃ (x : Wo) (q : Wp), worldW x q = .agg cs.toArray ∧ x.at w q ∧ x.le maxLen := by
  obtain ⟨c0, c1, c2, c3, c4, c5, c6, c7, c8, c9, c10, c11, c12, c13, c14, c15, y0, y1, y2, y3, y4, y5, m, rfl, g0, g1, g2, g3, g4, g5⟩ := openW Tryz.underlying35 rfl rfl rfl rfl rfl rfl (by kernel_rfl) (by kernel_rfl) (by kernel_rfl) (by kernel_rfl) (by kernel_rfl) (by kernel_rfl) (by kernel_rfl) h
  obtain ⟨wd, rfl⟩ := int_of_trod g0
  obtain ⟨a, ss, c, a', ws, c', e1, h1, l1, s1, h2, l2, s2⟩ := disk_of_trod g1
  obtain ⟨up, rfl⟩ := bool_of_trod g2
  obtain ⟨W, S, L, T, Hh, F, R, U, O, s, rs, cs, e3, h3, l3, s3⟩ := store_of_trod g3
  obtain ⟨p, P, cp, rfl, h4, l4, s4⟩ := pst_of_trod g4
  obtain ⟨t, ts, ct, rfl, h5, l5, s5⟩ := strs_of_trod Tryz.underlying22 Tryz.underlying9 cells1w g5
  simp only [List.cons.injEq, and_true] at e1 e3
  obtain ⟨rfl, rfl⟩ := e1
  obtain ⟨rfl, rfl, rfl, rfl, rfl, rfl, rfl, rfl, rfl, rfl⟩ := e3
  exact ⟨⟨wd, ss, ws, up, W, S, L, T, Hh, F, R, U, O, rs, P, ts⟩, ⟨a, c, a', c', s, cs, p, cp, t, ct⟩, rfl, ⟨h1, h2, h3, h4, h5⟩, ⟨l1, s1, l2, s2, l3, s3, l4, s4, l5, s5⟩⟩
end
end Go.Proofs.YtnmaknnnmjfhkafGreatDoor
