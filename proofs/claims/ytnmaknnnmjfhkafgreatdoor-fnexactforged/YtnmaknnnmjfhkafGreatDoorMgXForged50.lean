import Derived.Test.YtnmaknnnmjfhkafGreatDoorMgXForged0
import Derived.SliceStrings
import Derived.Deep.SlicePairs
import Derived.ProofKit
import Derived.ChangeOld
import Derived.Test.YtnmaknnnmjfhkafGreatDoorQxForgedPrA
import Derived.Deep.Slices
import Derived.Lib.SmallJoins
import Derived.Test.YtnmaknnnmjfhkafGreatDoorProg

set_option maxHeartbeats 16000000
set_option maxRecDepth 8000
namespace Go.Proofs.YtnmaknnnmjfhkafGreatDoor
open Go.RowKit Go.ChangeShapes Go.WideShapes Go.Deep
section
variable {H : Type} {enc : TypeId × Value → H} {P : Program} {w : World} {base : Nat} {spare : Nat → Bool} {held : Bool}

theorem add_none {a : Addr} {i : Nat} {v : Value} (h : w.cell? (a.add i) = some v) (h0 : ∃ u, w.cell? (a.add 0) = some u) : ∃ b o, a = ⟨b, o, none⟩ := by
  obtain ⟨b, o, s⟩ := a
  obtain ⟨u, hu⟩ := h0
  have hs : s = none := by simpa [Addr.add] using World.cell?_spot hu
  exact ⟨b, o, by rw [hs]⟩
theorem add_mk (b o i : Nat) : (⟨b, o, none⟩ : Addr).add i = ⟨b, o + i, none⟩ := by unfold Addr.add; split <;> simp_all

theorem strs_of_trod {t e : TypeId} {fuel : Nat} {v : Value} {x : DataW H × List MemPlace} (ht : P.underlying t = some (.slice e)) (he : P.underlying e = some .string) (hc : P.cellsOf e = 1)
    (h : DataW.trod enc P w base spare held fuel t [v] = some x) : ∃ a ss c, v = .slice a ss.length c ∧ Strs w a ss ∧ ss.length ≤ maxLen ∧ ∀ s ∈ ss, s.size ≤ maxLen := by
  rcases open_strings ht he hc h with ⟨hcs, _⟩ | ⟨a, len, cap, ss, hcs, _, hl, hm, hz, _, hcell, hw⟩
  · simp at hcs
    exact ⟨none, [], 0, by simpa using hcs, .inl rfl, by simp, by simp⟩
  · simp at hcs
    have hlen : len ≤ ss.length := by rw [hz]; split <;> omega
    have e1 : (ss.take len).length = len := by simp; omega
    refine ⟨some a, ss.take len, cap, by rw [e1]; exact hcs, ?_, by omega, fun s hs => hw s (List.mem_of_mem_take hs)⟩
    by_cases h0 : len = 0
    · exact .inl (by subst h0; simp)
    · obtain ⟨b, o, rfl⟩ := add_none (hcell 0 (by omega)) ⟨_, hcell 0 (by omega)⟩
      have hb := World.block_lt_of_cell? w _ (hcell 0 (by omega))
      rw [add_mk] at hb
      refine .inr ⟨b, o, rfl, hb, fun i hi => ?_⟩
      have := hcell i (by omega)
      rw [add_mk] at this
      rw [this]
      have hi' : i < len := by omega
      simp [List.getD, List.getElem?_take_of_lt hi']

theorem wrs_of_trod {t e : TypeId} {f0 f1 : Field} {fuel : Nat} {v : Value} {x : DataW H × List MemPlace} (ht : P.underlying t = some (.slice e)) (he : P.underlying e = some (.struct #[f0, f1]))
    (ce : P.cellsOf e = 2) (o0 : f0.offset = 0) (o1 : f1.offset = 1) (c0 : P.cellsOf f0.type = 1) (c1 : P.cellsOf f1.type = 1) (t0 : P.underlying f0.type = some (.int .i64)) (t1 : P.underlying f1.type = some .string)
    (h : DataW.trod enc P w base spare held fuel t [v] = some x) : ∃ a ws c, v = .slice a ws.length c ∧ Wrs w a ws ∧ ws.length ≤ maxLen ∧ (∀ s ∈ ws, s.2.size ≤ maxLen) ∧ ∀ s ∈ ws, (Lit.int .i64 s.1).wf = true := by
  rcases open_slice_pairs ht he ce o0 o1 c0 c1 h with ⟨hcs, _⟩ | ⟨a, len, cap, m, n, V0, V1, D0, D1, P0, P1, hcs, _, hl, hm, hz, _, hcell⟩
  · simp at hcs
    exact ⟨none, [], 0, by simpa using hcs, .inl rfl, by simp, by simp, by simp⟩
  · simp at hcs
    have hlm : len ≤ m := by rw [hz]; split <;> omega
    have each : ∀ i, i < len → ∃ q : Int × ByteArray, w.cell? (a.add (i * 2)) = some (.int .i64 q.1) ∧ w.cell? (a.add (i * 2 + 1)) = some (.string q.2) ∧ q.2.size ≤ maxLen ∧ (Lit.int .i64 q.1).wf = true := by
      intro i hi
      obtain ⟨h1, h2, h3, h4⟩ := hcell i (by omega)
      obtain ⟨y, ey, _, wy⟩ := DataW.trod_int t0 h3
      obtain ⟨s, es, _, ws⟩ := DataW.trod_string t1 h4
      simp at ey es
      rw [ey] at h1
      rw [es] at h2
      exact ⟨(y, s), h1, h2, ws, wy⟩
    obtain ⟨q, hq⟩ := choose_lt each
    have e1 : ((List.range len).map q).length = len := by simp
    refine ⟨some a, (List.range len).map q, cap, by rw [e1]; exact hcs, ?_, by omega, fun s hs => ?_, fun s hs => ?_⟩
    · by_cases h0 : len = 0
      · exact .inl (by subst h0; simp)
      · have hq0 := (hq 0 (by omega)).1
        obtain ⟨b, o, rfl⟩ := add_none hq0 ⟨_, hq0⟩
        have hb := World.block_lt_of_cell? w _ hq0
        rw [add_mk] at hb
        refine .inr ⟨b, o, rfl, hb, fun i hi => ?_⟩
        rw [e1] at hi
        obtain ⟨h1, h2, _⟩ := hq i hi
        rw [add_mk] at h1 h2
        simp [List.getD, hi, h1, ← Nat.add_assoc] at h2 ⊢
        exact h2
    · obtain ⟨i, hi, rfl⟩ := List.mem_map.1 hs
      exact (hq i (by simpa using hi)).2.2.1
    · obtain ⟨i, hi, rfl⟩ := List.mem_map.1 hs
      exact (hq i (by simpa using hi)).2.2.2
end
end Go.Proofs.YtnmaknnnmjfhkafGreatDoor

namespace Go.Proofs.YtnmaknnnmjfhkafGreatDoor
open Go.RowKit Go.ChangeShapes Go.WideShapes Go.Deep
section
variable {H : Type} {enc : TypeId × Value → H} {P : Program} {w : World} {base : Nat} {spare : Nat → Bool} {held : Bool}
theorem prs_of_trod {t e : TypeId} {f0 f1 : Field} {fuel : Nat} {v : Value} {x : DataW H × List MemPlace} (ht : P.underlying t = some (.slice e)) (he : P.underlying e = some (.struct #[f0, f1]))
    (ce : P.cellsOf e = 2) (o0 : f0.offset = 0) (o1 : f1.offset = 1) (c0 : P.cellsOf f0.type = 1) (c1 : P.cellsOf f1.type = 1) (t0 : P.underlying f0.type = some .string) (t1 : P.underlying f1.type = some .string)
    (h : DataW.trod enc P w base spare held fuel t [v] = some x) : ∃ a rs c, v = .slice a rs.length c ∧ Prs w a rs ∧ rs.length ≤ maxLen ∧ (∀ s ∈ rs, s.1.size ≤ maxLen ∧ s.2.size ≤ maxLen) := by
  rcases open_slice ht h with ⟨hcs, _⟩ | ⟨a, len, cap, m, n, D, Pl, hcs, hb, hl, hm, hmm, _, hx⟩
  · simp at hcs
    exact ⟨none, [], 0, by simpa using hcs, .inl rfl, by simp, by simp⟩
  · simp at hcs
    have hlm : len ≤ m := by rw [hmm]; split <;> omega
    have each : ∀ i, i < len → ∃ q : ByteArray × ByteArray, w.cell? (a.add (i * 2)) = some (.string q.1) ∧ w.cell? (a.add (i * 2 + 1)) = some (.string q.2) ∧ q.1.size ≤ maxLen ∧ q.2.size ≤ maxLen := by
      intro i hi
      obtain ⟨cs', h1, h2⟩ := hx i (by omega)
      rw [ce] at h1
      obtain ⟨_, hlen, hcell⟩ := World.cells?_some h1
      obtain ⟨xs, k, hk, hxy, _, hxl, hf⟩ := DataW.trod_struct he h2
      match xs, hxl, cs', hlen with
      | [y0, y1], _, [v0, v1], _ =>
        have g0 := hf 0 f0 rfl
        have g1 := hf 1 f1 rfl
        simp [o0, o1, c0, c1] at g0 g1
        have e0 := hcell 0 (by omega)
        have e1 := hcell 1 (by omega)
        rw [add_add] at e0 e1
        obtain ⟨z0, ez0, _, wz0⟩ := DataW.trod_string t0 g0
        simp at ez0
        subst ez0
        obtain ⟨z1, ez1, _, wz1⟩ := DataW.trod_string t1 g1
        simp at ez1
        subst ez1
        exact ⟨(z0, z1), by simpa using e0, by simpa using e1, wz0, wz1⟩
    obtain ⟨q, hq⟩ := choose_lt each
    have e1 : ((List.range len).map q).length = len := by simp
    refine ⟨some a, (List.range len).map q, cap, by rw [e1]; exact hcs, ?_, by omega, fun s hs => ?_⟩
    · by_cases h0 : len = 0
      · exact .inl (by subst h0; simp)
      · have hq0 := (hq 0 (by omega)).1
        obtain ⟨b, o, rfl⟩ := add_none hq0 ⟨_, hq0⟩
        have hb := World.block_lt_of_cell? w _ hq0
        rw [add_mk] at hb
        refine .inr ⟨b, o, rfl, hb, fun i hi => ?_⟩
        rw [e1] at hi
        obtain ⟨h0, h1, _⟩ := hq i hi
        rw [add_mk] at h0 h1
        have eg : ((List.range len).map q).getD i (ByteArray.empty, ByteArray.empty) = q i := by simp [List.getD, hi]
        rw [eg]
        exact ⟨h0, by rw [Nat.add_assoc]; exact h1⟩
    · obtain ⟨i, hi, rfl⟩ := List.mem_map.1 hs
      exact (hq i (by simpa using hi)).2.2
end
end Go.Proofs.YtnmaknnnmjfhkafGreatDoor

namespace Go.Proofs.YtnmaknnnmjfhkafGreatDoor
open Go.RowKit Go.ChangeShapes Go.WideShapes Go.Deep Go.Joins
section
variable {H : Type} {enc : TypeId × Value → H} {P : Program} {w : World} {base : Nat} {spare : Nat → Bool} {held : Bool}
theorem open_agg1' {r : Reach} {b0 : Nat} {t : TypeId} {f0 : Field} {v : Value} {d : DataW H} {p : List MemPlace} (hs : P.underlying t = some (.struct #[f0])) (o0 : f0.offset = 0) (k0 : P.cellsOf f0.type = 1) (hC : P.cellsOf t = 1)
    (hv : Value.okWide P w r b0 t v) (h : DataW.Trod enc P w base spare held t v d p) :
    ∃ (v0 : Value) (y0 : DataW H × List MemPlace) (n : Nat), v = .agg #[v0] ∧ DataW.trod enc P w base spare held n f0.type [v0] = some y0 := by
  obtain ⟨cs, rfl, hsz⟩ := okWide_struct hs hv
  obtain ⟨c0, rfl⟩ : ∃ c0, cs = #[c0] := by
    have h1 : cs.size = 1 := hsz.trans hC
    exact Array.size_eq_one_iff.1 h1
  obtain ⟨fuel, hf⟩ := h
  obtain ⟨xs, k, hk, hxy, _, hxl, hf'⟩ := DataW.trod_struct hs hf
  match xs, hxl with
  | [y0], _ =>
    have g0 := hf' 0 f0 rfl
    simp [o0, k0, Value.cells] at g0
    exact ⟨c0, y0, k, rfl, g0⟩
end
end Go.Proofs.YtnmaknnnmjfhkafGreatDoor

namespace Go.Proofs.YtnmaknnnmjfhkafGreatDoor
open Go.RowKit Go.ChangeShapes Go.WideShapes Go.Deep Go.Joins
set_option linter.unusedVariables false
set_option linter.unusedSimpArgs false
section
variable {H : Type} {enc : TypeId × Value → H} {w : World} {base : Nat} {spare : Nat → Bool} {held : Bool}
theorem openS {P : Program} {t : TypeId} {f0 : Field} {n : Nat} {cs : List Value} {x : DataW H × List MemPlace} (hs : P.underlying t = some (.struct #[f0])) (o0 : f0.offset = 0) (k0 : P.cellsOf f0.type = 1) (hC : P.cellsOf t = 1) (h : DataW.trod enc P w base spare held n t cs = some x) :
    ∃ (c0 : Value) (y0 : DataW H × List MemPlace) (m : Nat), cs = [c0] ∧ DataW.trod enc P w base spare held m f0.type [c0] = some y0 := by
  obtain ⟨xs, m, _, _, hl, hxl, hf⟩ := DataW.trod_struct hs h
  rw [hC] at hl
  match cs, hl, xs, hxl with
  | [c0], _, [y0], _ =>
    have g0 := hf 0 f0 rfl
    rw [o0, k0] at g0
    exact ⟨c0, y0, m, rfl, g0⟩
theorem cells2' : Tryz.prog.cellsOf 213 = 2 := by kernel_rfl
theorem state_of_trod {n : Nat} {cs : List Value} {x : DataW H × List MemPlace} (h : DataW.trod enc Tryz.prog w base spare held n 30 cs = some x) : ∃ a rs c, cs = [.slice a rs.length c] ∧ Prs w a rs ∧ rs.length ≤ maxLen ∧ (∀ s ∈ rs, s.1.size ≤ maxLen ∧ s.2.size ≤ maxLen) := by
  obtain ⟨c0, y0, m, rfl, g0⟩ := openS Tryz.underlying30 rfl (by kernel_rfl) (by kernel_rfl) h
  obtain ⟨a, rs, c, rfl, h1, h2, h3⟩ := prs_of_trod Tryz.underlying28 Tryz.underlying213 cells2' rfl rfl (by kernel_rfl) (by kernel_rfl) Tryz.underlying9 Tryz.underlying9 g0
  exact ⟨a, rs, c, rfl, h1, h2, h3⟩
theorem int_of_trod {n : Nat} {v : Value} {x : DataW H × List MemPlace} (h : DataW.trod enc Tryz.prog w base spare held n 3 [v] = some x) : ∃ a, v = .int .i64 a := by
  obtain ⟨a, e, _, _⟩ := DataW.trod_int Tryz.underlying3 h
  simp at e
  exact ⟨a, e⟩
end
end Go.Proofs.YtnmaknnnmjfhkafGreatDoor
