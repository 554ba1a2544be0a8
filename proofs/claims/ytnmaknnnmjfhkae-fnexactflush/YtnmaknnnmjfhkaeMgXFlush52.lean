import Derived.Test.YtnmaknnnmjfhkaeDnQ
import Derived.Test.YtnmaknnnmjfhkaeStO
import Derived.Test.YtnmaknnnmjfhkaeStM
import Derived.Test.YtnmaknnnmjfhkaeMkH
import Derived.Test.YtnmaknnnmjfhkaeOpE
import Derived.Test.YtnmaknnnmjfhkaeDk
import Derived.SliceStrings
import Derived.Deep.SlicePairs
import Derived.ProofKit
import Derived.ChangeOld
import Derived.Test.YtnmaknnnmjfhkaePrA
import Derived.Deep.Slices
import Derived.Lib.SmallJoins
import Derived.Test.YtnmaknnnmjfhkaeProg
namespace Go.Proofs.Ytnmaknnnmjfhkae
open Go.RowKit
set_option maxRecDepth 8000
set_option linter.unusedVariables false
set_option linter.unusedSimpArgs false

theorem own_apart {w w1 : World} {ops : List OpT} {a b : Option Addr} {n : Nat} (h : OwnS w b (opcells ops)) (hg : w.grownBy w1 (blk a n)) (ne : Apart a n b ops.length) : OwnS w1 b (opcells ops) :=
  h.grown hg (fun g hg hne => by
    rcases ne with h0 | h0 | h0
    · rw [h0]; simp
    · subst hg; rw [blk_pos g 0 _ (ne_of_opcells hne)] at h0; cases h0
    · subst hg; rw [blk_pos g 0 _ (ne_of_opcells hne)] at h0; exact fun e => h0 e.symm)

set_option maxHeartbeats 4000000 in
theorem eq_done (d : Dd) (a : Option Addr) (c : Nat) (b : Option Addr) (e : Nat) (a' : Option Addr) (c' : Nat) (b' : Option Addr) (e' : Nat) (w : World) (h1 : Prs w a d.rs) (h2 : Ops w b d.ops) (h3 : Prs w a' d.rs) (h4 : Ops w b' d.ops) (hl : d.rs.length ≤ 1048576) (hl2 : d.ops.length ≤ 1048576) :
    Calls Try.prog 13 #[dnV d a c b e, dnV d a' c' b' e'] w fun x w' => x = .returned (.bool true) ∧ Below w.heap.size w w' := by
  obtain ⟨C, W, S, L, T, H, F, R, U, O, rs, ops⟩ := d
  have hb0 : ∀ o1 o2, Below w.heap.size w ((w.alloc o1).alloc o2) := fun o1 o2 => ((Below.refl _ _).alloc (Nat.le_refl _) _).alloc (by simp) _
  have HES := hid (fun w' h' h'' => eq_store W S L T H F R U O a a' rs c c' w' h' h'' hl)
  unfold storeV at HES
  unfold dnV
  simp only at h1 h2 h3 h4 hl hl2
  go_enter Try.func13, Try.ntmps13
  go_wp2_with (first | (go_at_call 10; refine (HES.out _ (h1.below (hb0 _ _)) (h3.below (hb0 _ _))).mono ?_; rintro x w1 ⟨rfl, hb1⟩; have HB1 := hid ((hb0 _ _).trans (hb1.mono (by simp <;> omega))); have q1 : w1.cell? ⟨w.heap.size, 11, none⟩ = some (.slice b ops.length e) := (hb1.cell (p := ⟨w.heap.size, 11, none⟩) (by simp <;> omega)).trans (by go_simp); have q2 : w1.cell? ⟨w.heap.size + 1, 11, none⟩ = some (.slice b' ops.length e') := (hb1.cell (p := ⟨w.heap.size + 1, 11, none⟩) (by simp <;> omega)).trans (by go_simp); clear hb1) | (go_at_call 42; refine (eq_ops b b' ops e e' _ (h2.below HB1.out) (h4.below HB1.out) hl2).mono ?_; rintro x w2 ⟨rfl, hb2⟩))
  go_ret
  exact ⟨rfl, HB1.out.trans (hb2.mono HB1.out.size)⟩

set_option maxHeartbeats 4000000 in
theorem mark_done (d : Dd) (a : Option Addr) (c : Nat) (b : Option Addr) (e k : Nat) (w : World) (h : OwnDn w d.rs d.ops a b) (hk : 0 < k) (hl : k + 2 * d.rs.length + 3 * d.ops.length ≤ 100000000) :
    Calls Try.prog 15 #[dnV d a c b e, .int .i64 (k : Int)] w fun x w' => x = .returned (.int .i64 ((k + 2 * d.rs.length + 3 * d.ops.length : Nat) : Int)) ∧ (∃ w1 w2, Below w.heap.size w w1 ∧ w1.grownBy w2 (blk a d.rs.length) ∧ w2.grownBy w' (blk b d.ops.length)) ∧ OwnDn w' (prmarks k d.rs.length) (opmarks (k + 2 * d.rs.length) d.ops.length) a b := by
  obtain ⟨C, W, S, L, T, H, F, R, U, O, rs, ops⟩ := d
  simp only at h hl ⊢
  have hb0 : ∀ o, Below w.heap.size w (w.alloc o) := fun o => (Below.refl _ _).alloc (Nat.le_refl _) _
  have l1 := h.s.lt rs.length prcells_ne
  have l2 := h.p.lt ops.length opcells_ne
  have HMS := hid (fun w' h' => mark_store W S L T H F R U O a rs c k w' h' hk (by omega))
  obtain ⟨m, HM⟩ : ∃ m, Hid (m = k + 2 * rs.length) := ⟨_, hid rfl⟩
  have HMO := hid (fun w' h' => mark_ops b ops e m w' h' (by have := HM.out; omega) (by have := HM.out; omega))
  rw [← HM.out] at HMS ⊢
  unfold storeV at HMS
  unfold dnV
  simp only
  go_enter Try.func15, Try.ntmps15
  go_wp2_with (first | (go_at_call 14; refine (HMS.out _ (h.s.below (hb0 _))).mono ?_; rintro x w1 ⟨rfl, hg1, ho1⟩; have q1 : w1.cell? ⟨w.heap.size, 11, none⟩ = some (.slice b ops.length e) := (World.cell?_of_block (a := ⟨w.heap.size, 11, none⟩) (hg1.block w.heap.size (by simp) (fun e => by have := l1 _ e.symm; omega))).trans (by go_simp); have HG1 := hid hg1; have HO1 := hid ho1; clear hg1 ho1) | (go_at_call 44; refine (HMO.out _ (own_apart (h.p.below (hb0 _)) HG1.out h.ne)).mono ?_; rintro x w2 ⟨rfl, hg2, ho2⟩; have HG2 := hid hg2; have HO2 := hid ho2; clear hg2 ho2))
  go_ret
  refine ⟨rfl, ⟨_, w1, hb0 _, HG1.out, HG2.out⟩, ?_, HO2.out, ?_⟩
  · refine HO1.out.grown HG2.out (fun g hg hne => ?_)
    have hn1 : rs.length ≠ 0 := by have := ne_of_prcells hne; rwa [prmarks_length] at this
    subst hg
    rcases h.ne with h0 | h0 | h0
    · rw [blk_pos g 0 _ hn1] at h0; cases h0
    · rw [h0]; simp
    · rwa [blk_pos g 0 _ hn1] at h0
  · rw [prmarks_length, opmarks_length]; exact h.ne

set_option maxHeartbeats 4000000 in
theorem held_done (d : Dd) (a : Option Addr) (c : Nat) (b : Option Addr) (e k : Nat) (w : World) (h : OwnS w a (prcells (prmarks k d.rs.length))) (h' : OwnS w b (opcells (opmarks (k + 2 * d.rs.length) d.ops.length))) (hk : 0 < k) (hl : k + 2 * d.rs.length + 3 * d.ops.length ≤ 100000000) :
    Calls Try.prog 16 #[dnV d a c b e, .int .i64 (k : Int)] w fun x w' => x = .returned (.int .i64 ((k + 2 * d.rs.length + 3 * d.ops.length : Nat) : Int)) ∧ Below w.heap.size w w' := by
  obtain ⟨C, W, S, L, T, H, F, R, U, O, rs, ops⟩ := d
  simp only at h h' hl ⊢
  have hb0 : ∀ o, Below w.heap.size w (w.alloc o) := fun o => (Below.refl _ _).alloc (Nat.le_refl _) _
  have HMS := hid (fun w' h' => held_store W S L T H F R U O a rs.length c k w' h' hk (by omega))
  obtain ⟨m, HM⟩ : ∃ m, Hid (m = k + 2 * rs.length) := ⟨_, hid rfl⟩
  have HMO := hid (fun w' h' => held_ops b ops.length e m w' h' (by have := HM.out; omega) (by have := HM.out; omega))
  rw [← HM.out] at HMS h' ⊢
  obtain ⟨m2, HM2⟩ : ∃ m2, Hid (m2 = m + 3 * ops.length) := ⟨_, hid rfl⟩
  rw [← HM2.out] at HMO ⊢
  have hm0 : (0 : Int) ≤ (m : Int) := by omega
  have hm2 : (0 : Int) ≤ (m2 : Int) := by omega
  unfold storeV at HMS
  unfold dnV
  simp only
  go_enter Try.func16, Try.ntmps16
  go_wp2_with (first | (go_at_call 45; refine (HMS.out _ (h.below (hb0 _))).mono ?_; rintro x w1 ⟨rfl, hb1⟩; have q1 : w1.cell? ⟨w.heap.size, 11, none⟩ = some (.slice b ops.length e) := (hb1.cell (p := ⟨w.heap.size, 11, none⟩) (by simp)).trans (by go_simp); have HB1 := hid ((hb0 _).trans (hb1.mono (by simp))); clear hb1) | (go_at_call 46; refine (HMO.out _ (h'.below HB1.out)).mono ?_; rintro x w2 ⟨rfl, hb2⟩))
  go_ret
  exact ⟨rfl, HB1.out.trans (hb2.mono HB1.out.size)⟩
end Go.Proofs.Ytnmaknnnmjfhkae

namespace Go.Proofs.Ytnmaknnnmjfhkae
open Go.RowKit Go.ChangeShapes Go.WideShapes Go.Deep
section
variable {H : Type} {enc : TypeId × Value → H} {P : Program} {w : World} {base : Nat} {spare : Nat → Bool} {held : Bool}

theorem add_none {a : Addr} {i : Nat} {v : Value} (h : w.cell? (a.add i) = some v) (h0 : ∃ u, w.cell? (a.add 0) = some u) : ∃ b o, a = ⟨b, o, none⟩ := by
  obtain ⟨b, o, s⟩ := a
  obtain ⟨u, hu⟩ := h0
  have hs : s = none := by simpa [Addr.add] using World.cell?_spot hu
  exact ⟨b, o, by rw [hs]⟩
theorem add_mk (b o i : Nat) : (⟨b, o, none⟩ : Addr).add i = ⟨b, o + i, none⟩ := by unfold Addr.add; split <;> simp_all

theorem strs_of_trod {t e : TypeId} {fuel : Nat} {v : Value} {x : DataW H × List MemPlace} (ht : P.underlying t = some (.slice e)) (he : P.underlying e = some .string) (hc : P.cellsOf e = 1)
    (h : DataW.trod enc P w base spare held fuel t [v] = some x) : ∃ a ss c, v = .slice a ss.length c ∧ Strs w a ss ∧ ss.length ≤ maxLen ∧ ∀ s ∈ ss, s.size ≤ maxLen := by
  rcases open_strings ht he hc h with ⟨hcs, _⟩ | ⟨a, len, cap, ss, hcs, _, hl, hm, hz, _, hcell, hw⟩
  · simp at hcs
    exact ⟨none, [], 0, by simpa using hcs, .inl rfl, by simp, by simp⟩
  · simp at hcs
    have hlen : len ≤ ss.length := by rw [hz]; split <;> omega
    have e1 : (ss.take len).length = len := by simp; omega
    refine ⟨some a, ss.take len, cap, by rw [e1]; exact hcs, ?_, by omega, fun s hs => hw s (List.mem_of_mem_take hs)⟩
    by_cases h0 : len = 0
    · exact .inl (by subst h0; simp)
    · obtain ⟨b, o, rfl⟩ := add_none (hcell 0 (by omega)) ⟨_, hcell 0 (by omega)⟩
      have hb := World.block_lt_of_cell? w _ (hcell 0 (by omega))
      rw [add_mk] at hb
      refine .inr ⟨b, o, rfl, hb, fun i hi => ?_⟩
      have := hcell i (by omega)
      rw [add_mk] at this
      rw [this]
      have hi' : i < len := by omega
      simp [List.getD, List.getElem?_take_of_lt hi']

theorem wrs_of_trod {t e : TypeId} {f0 f1 : Field} {fuel : Nat} {v : Value} {x : DataW H × List MemPlace} (ht : P.underlying t = some (.slice e)) (he : P.underlying e = some (.struct #[f0, f1]))
    (ce : P.cellsOf e = 2) (o0 : f0.offset = 0) (o1 : f1.offset = 1) (c0 : P.cellsOf f0.type = 1) (c1 : P.cellsOf f1.type = 1) (t0 : P.underlying f0.type = some (.int .i64)) (t1 : P.underlying f1.type = some .string)
    (h : DataW.trod enc P w base spare held fuel t [v] = some x) : ∃ a ws c, v = .slice a ws.length c ∧ Wrs w a ws ∧ ws.length ≤ maxLen ∧ (∀ s ∈ ws, s.2.size ≤ maxLen) ∧ ∀ s ∈ ws, (Lit.int .i64 s.1).wf = true := by
  rcases open_slice_pairs ht he ce o0 o1 c0 c1 h with ⟨hcs, _⟩ | ⟨a, len, cap, m, n, V0, V1, D0, D1, P0, P1, hcs, _, hl, hm, hz, _, hcell⟩
  · simp at hcs
    exact ⟨none, [], 0, by simpa using hcs, .inl rfl, by simp, by simp, by simp⟩
  · simp at hcs
    have hlm : len ≤ m := by rw [hz]; split <;> omega
    have each : ∀ i, i < len → ∃ q : Int × ByteArray, w.cell? (a.add (i * 2)) = some (.int .i64 q.1) ∧ w.cell? (a.add (i * 2 + 1)) = some (.string q.2) ∧ q.2.size ≤ maxLen ∧ (Lit.int .i64 q.1).wf = true := by
      intro i hi
      obtain ⟨h1, h2, h3, h4⟩ := hcell i (by omega)
      obtain ⟨y, ey, _, wy⟩ := DataW.trod_int t0 h3
      obtain ⟨s, es, _, ws⟩ := DataW.trod_string t1 h4
      simp at ey es
      rw [ey] at h1
      rw [es] at h2
      exact ⟨(y, s), h1, h2, ws, wy⟩
    obtain ⟨q, hq⟩ := choose_lt each
    have e1 : ((List.range len).map q).length = len := by simp
    refine ⟨some a, (List.range len).map q, cap, by rw [e1]; exact hcs, ?_, by omega, fun s hs => ?_, fun s hs => ?_⟩
    · by_cases h0 : len = 0
      · exact .inl (by subst h0; simp)
      · have hq0 := (hq 0 (by omega)).1
        obtain ⟨b, o, rfl⟩ := add_none hq0 ⟨_, hq0⟩
        have hb := World.block_lt_of_cell? w _ hq0
        rw [add_mk] at hb
        refine .inr ⟨b, o, rfl, hb, fun i hi => ?_⟩
        rw [e1] at hi
        obtain ⟨h1, h2, _⟩ := hq i hi
        rw [add_mk] at h1 h2
        simp [List.getD, hi, h1, ← Nat.add_assoc] at h2 ⊢
        exact h2
    · obtain ⟨i, hi, rfl⟩ := List.mem_map.1 hs
      exact (hq i (by simpa using hi)).2.2.1
    · obtain ⟨i, hi, rfl⟩ := List.mem_map.1 hs
      exact (hq i (by simpa using hi)).2.2.2
end
end Go.Proofs.Ytnmaknnnmjfhkae

namespace Go.Proofs.Ytnmaknnnmjfhkae
open Go.RowKit Go.ChangeShapes Go.WideShapes Go.Deep
section
variable {H : Type} {enc : TypeId × Value → H} {P : Program} {w : World} {base : Nat} {spare : Nat → Bool} {held : Bool}
theorem prs_of_trod {t e : TypeId} {f0 f1 : Field} {fuel : Nat} {v : Value} {x : DataW H × List MemPlace} (ht : P.underlying t = some (.slice e)) (he : P.underlying e = some (.struct #[f0, f1]))
    (ce : P.cellsOf e = 2) (o0 : f0.offset = 0) (o1 : f1.offset = 1) (c0 : P.cellsOf f0.type = 1) (c1 : P.cellsOf f1.type = 1) (t0 : P.underlying f0.type = some .string) (t1 : P.underlying f1.type = some .string)
    (h : DataW.trod enc P w base spare held fuel t [v] = some x) : ∃ a rs c, v = .slice a rs.length c ∧ Prs w a rs ∧ rs.length ≤ maxLen ∧ (∀ s ∈ rs, s.1.size ≤ maxLen ∧ s.2.size ≤ maxLen) := by
  rcases open_slice ht h with ⟨hcs, _⟩ | ⟨a, len, cap, m, n, D, Pl, hcs, hb, hl, hm, hmm, _, hx⟩
  · simp at hcs
    exact ⟨none, [], 0, by simpa using hcs, .inl rfl, by simp, by simp⟩
  · simp at hcs
    have hlm : len ≤ m := by rw [hmm]; split <;> omega
    have each : ∀ i, i < len → ∃ q : ByteArray × ByteArray, w.cell? (a.add (i * 2)) = some (.string q.1) ∧ w.cell? (a.add (i * 2 + 1)) = some (.string q.2) ∧ q.1.size ≤ maxLen ∧ q.2.size ≤ maxLen := by
      intro i hi
      obtain ⟨cs', h1, h2⟩ := hx i (by omega)
      rw [ce] at h1
      obtain ⟨_, hlen, hcell⟩ := World.cells?_some h1
      obtain ⟨xs, k, hk, hxy, _, hxl, hf⟩ := DataW.trod_struct he h2
      match xs, hxl, cs', hlen with
      | [y0, y1], _, [v0, v1], _ =>
        have g0 := hf 0 f0 rfl
        have g1 := hf 1 f1 rfl
        simp [o0, o1, c0, c1] at g0 g1
        have e0 := hcell 0 (by omega)
        have e1 := hcell 1 (by omega)
        rw [add_add] at e0 e1
        obtain ⟨z0, ez0, _, wz0⟩ := DataW.trod_string t0 g0
        simp at ez0
        subst ez0
        obtain ⟨z1, ez1, _, wz1⟩ := DataW.trod_string t1 g1
        simp at ez1
        subst ez1
        exact ⟨(z0, z1), by simpa using e0, by simpa using e1, wz0, wz1⟩
    obtain ⟨q, hq⟩ := choose_lt each
    have e1 : ((List.range len).map q).length = len := by simp
    refine ⟨some a, (List.range len).map q, cap, by rw [e1]; exact hcs, ?_, by omega, fun s hs => ?_⟩
    · by_cases h0 : len = 0
      · exact .inl (by subst h0; simp)
      · have hq0 := (hq 0 (by omega)).1
        obtain ⟨b, o, rfl⟩ := add_none hq0 ⟨_, hq0⟩
        have hb := World.block_lt_of_cell? w _ hq0
        rw [add_mk] at hb
        refine .inr ⟨b, o, rfl, hb, fun i hi => ?_⟩
        rw [e1] at hi
        obtain ⟨h0, h1, _⟩ := hq i hi
        rw [add_mk] at h0 h1
        have eg : ((List.range len).map q).getD i (ByteArray.empty, ByteArray.empty) = q i := by simp [List.getD, hi]
        rw [eg]
        exact ⟨h0, by rw [Nat.add_assoc]; exact h1⟩
    · obtain ⟨i, hi, rfl⟩ := List.mem_map.1 hs
      exact (hq i (by simpa using hi)).2.2
end
end Go.Proofs.Ytnmaknnnmjfhkae

namespace Go.Proofs.Ytnmaknnnmjfhkae
open Go.RowKit Go.ChangeShapes Go.WideShapes Go.Deep Go.Joins
section
variable {H : Type} {enc : TypeId × Value → H} {P : Program} {w : World} {base : Nat} {spare : Nat → Bool} {held : Bool}
theorem open_agg1' {r : Reach} {b0 : Nat} {t : TypeId} {f0 : Field} {v : Value} {d : DataW H} {p : List MemPlace} (hs : P.underlying t = some (.struct #[f0])) (o0 : f0.offset = 0) (k0 : P.cellsOf f0.type = 1) (hC : P.cellsOf t = 1)
    (hv : Value.okWide P w r b0 t v) (h : DataW.Trod enc P w base spare held t v d p) :
    ∃ (v0 : Value) (y0 : DataW H × List MemPlace) (n : Nat), v = .agg #[v0] ∧ DataW.trod enc P w base spare held n f0.type [v0] = some y0 := by
  obtain ⟨cs, rfl, hsz⟩ := okWide_struct hs hv
  obtain ⟨c0, rfl⟩ : ∃ c0, cs = #[c0] := by
    have h1 : cs.size = 1 := hsz.trans hC
    exact Array.size_eq_one_iff.1 h1
  obtain ⟨fuel, hf⟩ := h
  obtain ⟨xs, k, hk, hxy, _, hxl, hf'⟩ := DataW.trod_struct hs hf
  match xs, hxl with
  | [y0], _ =>
    have g0 := hf' 0 f0 rfl
    simp [o0, k0, Value.cells] at g0
    exact ⟨c0, y0, k, rfl, g0⟩
end
end Go.Proofs.Ytnmaknnnmjfhkae

namespace Go.Proofs.Ytnmaknnnmjfhkae
open Go.RowKit Go.ChangeShapes Go.WideShapes Go.Deep Go.Joins
set_option linter.unusedVariables false
set_option linter.unusedSimpArgs false
section
variable {H : Type} {enc : TypeId × Value → H} {w : World} {base : Nat} {spare : Nat → Bool} {held : Bool}
theorem openS {P : Program} {t : TypeId} {f0 : Field} {n : Nat} {cs : List Value} {x : DataW H × List MemPlace} (hs : P.underlying t = some (.struct #[f0])) (o0 : f0.offset = 0) (k0 : P.cellsOf f0.type = 1) (hC : P.cellsOf t = 1) (h : DataW.trod enc P w base spare held n t cs = some x) :
    ∃ (c0 : Value) (y0 : DataW H × List MemPlace) (m : Nat), cs = [c0] ∧ DataW.trod enc P w base spare held m f0.type [c0] = some y0 := by
  obtain ⟨xs, m, _, _, hl, hxl, hf⟩ := DataW.trod_struct hs h
  rw [hC] at hl
  match cs, hl, xs, hxl with
  | [c0], _, [y0], _ =>
    have g0 := hf 0 f0 rfl
    rw [o0, k0] at g0
    exact ⟨c0, y0, m, rfl, g0⟩
theorem cells2' : Try.prog.cellsOf 121 = 2 := by kernel_rfl
theorem state_of_trod {n : Nat} {cs : List Value} {x : DataW H × List MemPlace} (h : DataW.trod enc Try.prog w base spare held n 26 cs = some x) : ∃ a rs c, cs = [.slice a rs.length c] ∧ Prs w a rs ∧ rs.length ≤ maxLen ∧ (∀ s ∈ rs, s.1.size ≤ maxLen ∧ s.2.size ≤ maxLen) := by
  obtain ⟨c0, y0, m, rfl, g0⟩ := openS Try.underlying26 rfl (by kernel_rfl) (by kernel_rfl) h
  obtain ⟨a, rs, c, rfl, h1, h2, h3⟩ := prs_of_trod Try.underlying24 Try.underlying121 cells2' rfl rfl (by kernel_rfl) (by kernel_rfl) Try.underlying9 Try.underlying9 g0
  exact ⟨a, rs, c, rfl, h1, h2, h3⟩
theorem int_of_trod {n : Nat} {v : Value} {x : DataW H × List MemPlace} (h : DataW.trod enc Try.prog w base spare held n 3 [v] = some x) : ∃ a, v = .int .i64 a := by
  obtain ⟨a, e, _, _⟩ := DataW.trod_int Try.underlying3 h
  simp at e
  exact ⟨a, e⟩
end
end Go.Proofs.Ytnmaknnnmjfhkae

namespace Go.Proofs.Ytnmaknnnmjfhkae
open Go.RowKit Go.ChangeShapes Go.WideShapes Go.Deep Go.Joins
set_option linter.unusedVariables false
set_option linter.unusedSimpArgs false
section
variable {H : Type} {enc : TypeId × Value → H} {w : World} {base : Nat} {spare : Nat → Bool} {held : Bool}
theorem openR {P : Program} {t : TypeId} {f0 f1 f2 f3 : Field} {n : Nat} {cs : List Value} {x : DataW H × List MemPlace} (hs : P.underlying t = some (.struct #[f0, f1, f2, f3])) (o0 : f0.offset = 0) (o1 : f1.offset = 1) (o2 : f2.offset = 2) (o3 : f3.offset = 3) (k0 : P.cellsOf f0.type = 1) (k1 : P.cellsOf f1.type = 1) (k2 : P.cellsOf f2.type = 1) (k3 : P.cellsOf f3.type = 1) (hC : P.cellsOf t = 4) (h : DataW.trod enc P w base spare held n t cs = some x) :
    ∃ (c0 c1 c2 c3 : Value) (y0 y1 y2 y3 : DataW H × List MemPlace) (m : Nat), cs = [c0, c1, c2, c3] ∧ DataW.trod enc P w base spare held m f0.type [c0] = some y0 ∧ DataW.trod enc P w base spare held m f1.type [c1] = some y1 ∧ DataW.trod enc P w base spare held m f2.type [c2] = some y2 ∧ DataW.trod enc P w base spare held m f3.type [c3] = some y3 := by
  obtain ⟨xs, m, _, _, hl, hxl, hf⟩ := DataW.trod_struct hs h
  rw [hC] at hl
  match cs, hl, xs, hxl with
  | [c0, c1, c2, c3], _, [y0, y1, y2, y3], _ =>
    have g0 := hf 0 f0 rfl
    rw [o0, k0] at g0
    have g1 := hf 1 f1 rfl
    rw [o1, k1] at g1
    have g2 := hf 2 f2 rfl
    rw [o2, k2] at g2
    have g3 := hf 3 f3 rfl
    rw [o3, k3] at g3
    exact ⟨c0, c1, c2, c3, y0, y1, y2, y3, m, rfl, g0, g1, g2, g3⟩
theorem openT {P : Program} {t : TypeId} {f0 f1 f2 f3 f4 f5 f6 : Field} {n : Nat} {cs : List Value} {x : DataW H × List MemPlace} (hs : P.underlying t = some (.struct #[f0, f1, f2, f3, f4, f5, f6])) (o0 : f0.offset = 0) (o1 : f1.offset = 1) (o2 : f2.offset = 2) (o3 : f3.offset = 3) (o4 : f4.offset = 7) (o5 : f5.offset = 8) (o6 : f6.offset = 9) (k0 : P.cellsOf f0.type = 1) (k1 : P.cellsOf f1.type = 1) (k2 : P.cellsOf f2.type = 1) (k3 : P.cellsOf f3.type = 4) (k4 : P.cellsOf f4.type = 1) (k5 : P.cellsOf f5.type = 1) (k6 : P.cellsOf f6.type = 1) (hC : P.cellsOf t = 10) (h : DataW.trod enc P w base spare held n t cs = some x) :
    ∃ (c0 c1 c2 c3 c4 c5 c6 c7 c8 c9 : Value) (y0 y1 y2 y3 y4 y5 y6 : DataW H × List MemPlace) (m : Nat), cs = [c0, c1, c2, c3, c4, c5, c6, c7, c8, c9] ∧ DataW.trod enc P w base spare held m f0.type [c0] = some y0 ∧ DataW.trod enc P w base spare held m f1.type [c1] = some y1 ∧ DataW.trod enc P w base spare held m f2.type [c2] = some y2 ∧ DataW.trod enc P w base spare held m f3.type [c3, c4, c5, c6] = some y3 ∧ DataW.trod enc P w base spare held m f4.type [c7] = some y4 ∧ DataW.trod enc P w base spare held m f5.type [c8] = some y5 ∧ DataW.trod enc P w base spare held m f6.type [c9] = some y6 := by
  obtain ⟨xs, m, _, _, hl, hxl, hf⟩ := DataW.trod_struct hs h
  rw [hC] at hl
  match cs, hl, xs, hxl with
  | [c0, c1, c2, c3, c4, c5, c6, c7, c8, c9], _, [y0, y1, y2, y3, y4, y5, y6], _ =>
    have g0 := hf 0 f0 rfl
    rw [o0, k0] at g0
    have g1 := hf 1 f1 rfl
    rw [o1, k1] at g1
    have g2 := hf 2 f2 rfl
    rw [o2, k2] at g2
    have g3 := hf 3 f3 rfl
    rw [o3, k3] at g3
    have g4 := hf 4 f4 rfl
    rw [o4, k4] at g4
    have g5 := hf 5 f5 rfl
    rw [o5, k5] at g5
    have g6 := hf 6 f6 rfl
    rw [o6, k6] at g6
    exact ⟨c0, c1, c2, c3, c4, c5, c6, c7, c8, c9, y0, y1, y2, y3, y4, y5, y6, m, rfl, g0, g1, g2, g3, g4, g5, g6⟩
theorem root_of_trod {n : Nat} {cs : List Value} {x : DataW H × List MemPlace} (h : DataW.trod enc Try.prog w base spare held n 23 cs = some x) : ∃ T Hh F R, cs = [.int .i64 T, .int .i64 Hh, .int .i64 F, .int .i64 R] := by
  obtain ⟨c0, c1, c2, c3, y0, y1, y2, y3, m, rfl, g0, g1, g2, g3⟩ := openR Try.underlying23 rfl rfl rfl rfl (by kernel_rfl) (by kernel_rfl) (by kernel_rfl) (by kernel_rfl) (by kernel_rfl) h
  obtain ⟨a0, rfl⟩ := int_of_trod g0
  obtain ⟨a1, rfl⟩ := int_of_trod g1
  obtain ⟨a2, rfl⟩ := int_of_trod g2
  obtain ⟨a3, rfl⟩ := int_of_trod g3
  exact ⟨a0, a1, a2, a3, rfl⟩
theorem store_of_trod {n : Nat} {cs : List Value} {x : DataW H × List MemPlace} (h : DataW.trod enc Try.prog w base spare held n 28 cs = some x) : ∃ W S L T Hh F R U O a rs c, cs = [.int .i64 W, .int .i64 S, .int .i64 L, .int .i64 T, .int .i64 Hh, .int .i64 F, .int .i64 R, .int .i64 U, .int .i64 O, .slice a rs.length c] ∧ Prs w a rs ∧ rs.length ≤ maxLen ∧ (∀ s ∈ rs, s.1.size ≤ maxLen ∧ s.2.size ≤ maxLen) := by
  obtain ⟨c0, c1, c2, c3, c4, c5, c6, c7, c8, c9, y0, y1, y2, y3, y4, y5, y6, m, rfl, g0, g1, g2, g3, g4, g5, g6⟩ := openT Try.underlying28 rfl rfl rfl rfl rfl rfl rfl (by kernel_rfl) (by kernel_rfl) (by kernel_rfl) (by kernel_rfl) (by kernel_rfl) (by kernel_rfl) (by kernel_rfl) (by kernel_rfl) h
  obtain ⟨a0, rfl⟩ := int_of_trod g0
  obtain ⟨a1, rfl⟩ := int_of_trod g1
  obtain ⟨a2, rfl⟩ := int_of_trod g2
  obtain ⟨T, Hh, F, R, e3⟩ := root_of_trod g3
  obtain ⟨a4, rfl⟩ := int_of_trod g4
  obtain ⟨a5, rfl⟩ := int_of_trod g5
  obtain ⟨a, rs, c, e6, h1, h2, h3⟩ := state_of_trod g6
  simp only [List.cons.injEq, and_true] at e3 e6
  obtain ⟨rfl, rfl, rfl, rfl⟩ := e3
  subst e6
  exact ⟨a0, a1, a2, T, Hh, F, R, a4, a5, a, rs, c, rfl, h1, h2, h3⟩
end
end Go.Proofs.Ytnmaknnnmjfhkae

namespace Go.Proofs.Ytnmaknnnmjfhkae
open Go.RowKit
set_option maxRecDepth 8000
set_option linter.unusedVariables false
set_option linter.unusedSimpArgs false

/-- A block with these cells ahead. -/
structure Boxd (w : World) (B : Nat) (cs : List Value) : Prop where
  lt : B < w.heap.size
  cell : ∀ i v, cs[i]? = some v → w.cell? ⟨B, i, none⟩ = some v
theorem Boxd.below {w w' : World} {B : Nat} {cs : List Value} (h : Boxd w B cs) (hb : Below w.heap.size w w') : Boxd w' B cs :=
  ⟨Nat.lt_of_lt_of_le h.lt hb.size, fun i v hv => (hb.cell (p := ⟨B, i, none⟩) h.lt).trans (h.cell i v hv)⟩
theorem Boxd.grown {w w' : World} {B : Nat} {cs : List Value} {r : Option Nat} (h : Boxd w B cs) (hg : w.grownBy w' r) (hn : some B ≠ r) : Boxd w' B cs :=
  ⟨Nat.lt_of_lt_of_le h.lt hg.size, fun i v hv => (World.cell?_of_block (a := ⟨B, i, none⟩) (hg.block B h.lt hn)).trans (h.cell i v hv)⟩
theorem Boxd.new (w : World) (cs : Array Value) (t : TypeId) : Boxd (w.alloc (.cells cs t)) w.heap.size cs.toList :=
  ⟨by simp, fun i v hv => by rw [World.cell?_alloc_at _ _ _ _ rfl]; simpa using hv⟩
def dcells (d : Dd) (a : Option Addr) (c : Nat) (b : Option Addr) (e : Nat) : List Value := [.int .i64 d.C, .int .i64 d.W, .int .i64 d.S, .int .i64 d.L, .int .i64 d.T, .int .i64 d.H, .int .i64 d.F, .int .i64 d.R, .int .i64 d.U, .int .i64 d.O, .slice a d.rs.length c, .slice b d.ops.length e]
/-- A variable that holds what a call of the store came to, and its lists. -/
structure DnBox (w : World) (B : Nat) (d : Dd) (a b : Option Addr) (c e lo hi : Nat) : Prop where
  box : Boxd w B (dcells d a c b e)
  own : OwnDn w d.rs d.ops a b
  one : ∀ g, blk a d.rs.length = some g → lo ≤ g ∧ g < hi
  two : ∀ g, blk b d.ops.length = some g → lo ≤ g ∧ g < hi
theorem DnBox.below {w w' : World} {B : Nat} {d : Dd} {a b : Option Addr} {c e lo hi : Nat} (h : DnBox w B d a b c e lo hi) (hb : Below w.heap.size w w') : DnBox w' B d a b c e lo hi := ⟨h.box.below hb, h.own.below hb, h.one, h.two⟩
theorem DnBox.grown {w w' : World} {B : Nat} {d : Dd} {a b : Option Addr} {c e lo hi : Nat} {r : Option Nat} (h : DnBox w B d a b c e lo hi) (hg : w.grownBy w' r) (hr : ∀ g, r = some g → (g < lo ∨ hi ≤ g) ∧ g ≠ B) : DnBox w' B d a b c e lo hi := by
  refine ⟨h.box.grown hg (fun e => (hr B e.symm).2 rfl), ⟨h.own.s.grown hg (fun g hg' hne e => ?_), h.own.p.grown hg (fun g hg' hne e => ?_), h.own.ne⟩, h.one, h.two⟩
  · subst hg'
    have h1 := h.one g (blk_pos g 0 _ (ne_of_prcells hne))
    have h2 := (hr g e.symm).1
    omega
  · subst hg'
    have h1 := h.two g (blk_pos g 0 _ (ne_of_opcells hne))
    have h2 := (hr g e.symm).1
    omega
theorem dnbox_new {w0 w : World} {d : Dd} {a b : Option Addr} {c e : Nat} (t : TypeId) (ho : OwnDn w d.rs d.ops a b) (h1 : ∀ g, blk a d.rs.length = some g → w0.heap.size ≤ g) (h2 : ∀ g, blk b d.ops.length = some g → w0.heap.size ≤ g) : DnBox (w.alloc (.cells (dcells d a c b e).toArray t)) w.heap.size d a b c e w0.heap.size w.heap.size :=
  ⟨Boxd.new w _ t, ho.below ((Below.refl _ _).alloc (Nat.le_refl _) _), fun g hg => ⟨h1 g hg, ho.s.lt _ prcells_ne g hg⟩, fun g hg => ⟨h2 g hg, ho.p.lt _ opcells_ne g hg⟩⟩
/-- A variable that holds a store, and its pairs. -/
structure StBox (w : World) (B g : Nat) (cs : List Value) (rs : List Pr) : Prop where
  box : Boxd w B cs
  row : Row w g (prcells rs)
theorem StBox.below {w w' : World} {B g : Nat} {cs : List Value} {rs : List Pr} (h : StBox w B g cs rs) (hb : Below w.heap.size w w') : StBox w' B g cs rs := ⟨h.box.below hb, h.row.below hb⟩
theorem blk_one {g n k : Nat} (h : blk (some ⟨g, 0, none⟩) n = some k) : k = g := by
  unfold blk at h
  split at h
  · cases h
  · simp at h; exact h.symm
end Go.Proofs.Ytnmaknnnmjfhkae
