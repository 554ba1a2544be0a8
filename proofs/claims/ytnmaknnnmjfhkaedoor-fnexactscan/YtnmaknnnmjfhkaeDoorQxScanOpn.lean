import Derived.Test.YtnmaknnnmjfhkaeDoorMgXScan13
import Derived.SliceStrings
import Derived.Deep.SlicePairs
import Derived.ProofKit
import Derived.ChangeOld
namespace Go.Proofs.YtnmaknnnmjfhkaeDoor
open Go.RowKit Go.ChangeShapes Go.WideShapes Go.Deep
section
variable {H : Type} {enc : TypeId × Value → H} {P : Program} {w : World} {base : Nat} {spare : Nat → Bool} {held : Bool}

theorem add_none {a : Addr} {i : Nat} {v : Value} (h : w.cell? (a.add i) = some v) (h0 : ∃ u, w.cell? (a.add 0) = some u) : ∃ b o, a = ⟨b, o, none⟩ := by
  obtain ⟨b, o, s⟩ := a
  obtain ⟨u, hu⟩ := h0
  have hs : s = none := by simpa [Addr.add] using World.cell?_spot hu
  exact ⟨b, o, by rw [hs]⟩
theorem add_mk (b o i : Nat) : (⟨b, o, none⟩ : Addr).add i = ⟨b, o + i, none⟩ := by unfold Addr.add; split <;> simp_all

theorem strs_of_trod {t e : TypeId} {fuel : Nat} {v : Value} {x : DataW H × List MemPlace} (ht : P.underlying t = some (.slice e)) (he : P.underlying e = some .string) (hc : P.cellsOf e = 1)
    (h : DataW.trod enc P w base spare held fuel t [v] = some x) : ∃ a ss c, v = .slice a ss.length c ∧ Strs w a ss ∧ ss.length ≤ maxLen ∧ ∀ s ∈ ss, s.size ≤ maxLen := by
  rcases open_strings ht he hc h with ⟨hcs, _⟩ | ⟨a, len, cap, ss, hcs, _, hl, hm, hz, _, hcell, hw⟩
  · simp at hcs
    exact ⟨none, [], 0, by simpa using hcs, .inl rfl, by simp, by simp⟩
  · simp at hcs
    have hlen : len ≤ ss.length := by rw [hz]; split <;> omega
    have e1 : (ss.take len).length = len := by simp; omega
    refine ⟨some a, ss.take len, cap, by rw [e1]; exact hcs, ?_, by omega, fun s hs => hw s (List.mem_of_mem_take hs)⟩
    by_cases h0 : len = 0
    · exact .inl (by subst h0; simp)
    · obtain ⟨b, o, rfl⟩ := add_none (hcell 0 (by omega)) ⟨_, hcell 0 (by omega)⟩
      have hb := World.block_lt_of_cell? w _ (hcell 0 (by omega))
      rw [add_mk] at hb
      refine .inr ⟨b, o, rfl, hb, fun i hi => ?_⟩
      have := hcell i (by omega)
      rw [add_mk] at this
      rw [this]
      have hi' : i < len := by omega
      simp [List.getD, List.getElem?_take_of_lt hi']

theorem wrs_of_trod {t e : TypeId} {f0 f1 : Field} {fuel : Nat} {v : Value} {x : DataW H × List MemPlace} (ht : P.underlying t = some (.slice e)) (he : P.underlying e = some (.struct #[f0, f1]))
    (ce : P.cellsOf e = 2) (o0 : f0.offset = 0) (o1 : f1.offset = 1) (c0 : P.cellsOf f0.type = 1) (c1 : P.cellsOf f1.type = 1) (t0 : P.underlying f0.type = some (.int .i64)) (t1 : P.underlying f1.type = some .string)
    (h : DataW.trod enc P w base spare held fuel t [v] = some x) : ∃ a ws c, v = .slice a ws.length c ∧ Wrs w a ws ∧ ws.length ≤ maxLen ∧ (∀ s ∈ ws, s.2.size ≤ maxLen) ∧ ∀ s ∈ ws, (Lit.int .i64 s.1).wf = true := by
  rcases open_slice_pairs ht he ce o0 o1 c0 c1 h with ⟨hcs, _⟩ | ⟨a, len, cap, m, n, V0, V1, D0, D1, P0, P1, hcs, _, hl, hm, hz, _, hcell⟩
  · simp at hcs
    exact ⟨none, [], 0, by simpa using hcs, .inl rfl, by simp, by simp, by simp⟩
  · simp at hcs
    have hlm : len ≤ m := by rw [hz]; split <;> omega
    have each : ∀ i, i < len → ∃ q : Int × ByteArray, w.cell? (a.add (i * 2)) = some (.int .i64 q.1) ∧ w.cell? (a.add (i * 2 + 1)) = some (.string q.2) ∧ q.2.size ≤ maxLen ∧ (Lit.int .i64 q.1).wf = true := by
      intro i hi
      obtain ⟨h1, h2, h3, h4⟩ := hcell i (by omega)
      obtain ⟨y, ey, _, wy⟩ := DataW.trod_int t0 h3
      obtain ⟨s, es, _, ws⟩ := DataW.trod_string t1 h4
      simp at ey es
      rw [ey] at h1
      rw [es] at h2
      exact ⟨(y, s), h1, h2, ws, wy⟩
    obtain ⟨q, hq⟩ := choose_lt each
    have e1 : ((List.range len).map q).length = len := by simp
    refine ⟨some a, (List.range len).map q, cap, by rw [e1]; exact hcs, ?_, by omega, fun s hs => ?_, fun s hs => ?_⟩
    · by_cases h0 : len = 0
      · exact .inl (by subst h0; simp)
      · have hq0 := (hq 0 (by omega)).1
        obtain ⟨b, o, rfl⟩ := add_none hq0 ⟨_, hq0⟩
        have hb := World.block_lt_of_cell? w _ hq0
        rw [add_mk] at hb
        refine .inr ⟨b, o, rfl, hb, fun i hi => ?_⟩
        rw [e1] at hi
        obtain ⟨h1, h2, _⟩ := hq i hi
        rw [add_mk] at h1 h2
        simp [List.getD, hi, h1, ← Nat.add_assoc] at h2 ⊢
        exact h2
    · obtain ⟨i, hi, rfl⟩ := List.mem_map.1 hs
      exact (hq i (by simpa using hi)).2.2.1
    · obtain ⟨i, hi, rfl⟩ := List.mem_map.1 hs
      exact (hq i (by simpa using hi)).2.2.2
end
end Go.Proofs.YtnmaknnnmjfhkaeDoor
