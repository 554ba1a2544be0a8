import Derived.Test.YtnmaknnnmjfhkaeDoorMgXScan13
import Derived.Laws.MakeOwn
import Derived.WalkSmall
import Derived.Deep.Draws
namespace Go.Proofs.YtnmaknnnmjfhkaeDoor
open Go.RowKit

/-- A row of cells that the call has made: they may be written. -/
structure Row (w : World) (g : Nat) (cs : List Value) : Prop where
  lt : g < w.heap.size
  cell : ∀ i v, cs[i]? = some v → w.cell? ⟨g, i, none⟩ = some v
  froz : ∀ i, i < cs.length → w.frozen? ⟨g, i, none⟩ = false
theorem Row.below {w w' : World} {g : Nat} {cs : List Value} (h : Row w g cs) (hb : Below w.heap.size w w') : Row w' g cs :=
  ⟨Nat.lt_of_lt_of_le h.lt hb.size, fun i v hv => (hb.cell (p := ⟨g, i, none⟩) h.lt).trans (h.cell i v hv), fun i hi => (hb.frozen (p := ⟨g, i, none⟩) h.lt).trans (h.froz i hi)⟩
theorem Row.set {w : World} {g : Nat} {cs : List Value} (h : Row w g cs) (k : Nat) (hk : k < cs.length) (v : Value) : Row (w.setCell ⟨g, k, none⟩ v) g (cs.set k v) := by
  refine ⟨by simpa [World.setCell] using h.lt, fun i u hu => ?_, fun i hi => ?_⟩
  · by_cases he : i = k
    · subst he
      rw [List.getElem?_set_self hk] at hu
      cases hu
      exact World.cell?_setCell_same w _ _ (h.cell i _ (List.getElem?_eq_getElem hk))
    · rw [List.getElem?_set_ne (fun e => he e.symm)] at hu
      rw [World.cell?_setCell_other (w := w) (h := show (⟨g, k, none⟩ : Addr) ≠ ⟨g, i, none⟩ by simp <;> omega)]
      exact h.cell i u hu
  · rw [World.frozen?_setCell]; exact h.froz i (by simpa using hi)
theorem Row.other {w : World} {g : Nat} {cs : List Value} (h : Row w g cs) (p : Addr) (hp : p.block ≠ g) (v : Value) : Row (w.setCell p v) g cs := by
  refine ⟨by simpa [World.setCell] using h.lt, fun i u hu => ?_, fun i hi => ?_⟩
  · rw [World.cell?_setCell_other (w := w) (h := fun e => hp (by rw [e]))]; exact h.cell i u hu
  · rw [World.frozen?_setCell]; exact h.froz i hi
theorem Row.drew {w : World} {g : Nat} {cs : List Value} (h : Row w g cs) : Row w.drew g cs := ⟨h.lt, h.cell, h.froz⟩
theorem Row.drewN {w : World} {g : Nat} {cs : List Value} (h : Row w g cs) (q : Nat) : Row (w.drewN q) g cs := h.below (below_drewN (Below.refl _ _) q)
theorem Row.alloc {w : World} {g : Nat} {cs : List Value} (h : Row w g cs) (o : Obj) : Row (w.alloc o) g cs := h.below ((Below.refl _ _).alloc (Nat.le_refl _) _)
theorem frozen_beyond (w : World) (b o : Nat) (h : w.heap.size ≤ b) : w.frozen? ⟨b, o, none⟩ = false := by
  have e : w.heap[b]? = none := by simp [h]
  simp [World.frozen?, e]
theorem row_new (w : World) (A : Array Value) (t : TypeId) : Row (w.alloc (.cells A t)) w.heap.size A.toList :=
  ⟨by simp, fun i v hv => by rw [World.cell?_alloc_at _ _ _ _ rfl]; simpa using hv, fun i hi => by rw [frozen?_alloc_cells]; exact frozen_beyond _ _ _ (Nat.le_refl _)⟩
theorem Row.strs {w : World} {g : Nat} {ss : List ByteArray} (h : Row w g (ss.map Value.string)) : Strs w (some ⟨g, 0, none⟩) ss :=
  .inr ⟨g, 0, rfl, h.lt, fun i hi => by
    rw [Nat.zero_add]
    exact h.cell i _ (by simp [List.getD, hi])⟩
/-- The cells of pairs. -/
def wcells (ws : List (Int × ByteArray)) : List Value := ws.flatMap fun x => [.int .i64 x.1, .string x.2]
theorem wcells_nil : wcells [] = [] := rfl
theorem wcells_append (a b : List (Int × ByteArray)) : wcells (a ++ b) = wcells a ++ wcells b := by simp [wcells]
theorem wcells_length (ws : List (Int × ByteArray)) : (wcells ws).length = ws.length * 2 := by
  induction ws with
  | nil => rfl
  | cons x r ih => simp [wcells] at ih ⊢; omega
theorem wcells_at : ∀ (ws : List (Int × ByteArray)) (i : Nat), i < ws.length → (wcells ws)[i * 2]? = some (.int .i64 (ws.getD i (0, ByteArray.empty)).1) ∧ (wcells ws)[i * 2 + 1]? = some (.string (ws.getD i (0, ByteArray.empty)).2)
  | x :: r, 0, _ => by simp [wcells]
  | x :: r, i + 1, h => by
    have ih := wcells_at r i (by simpa using h)
    have e : wcells (x :: r) = .int .i64 x.1 :: .string x.2 :: wcells r := by simp [wcells]
    rw [e, show (i + 1) * 2 = i * 2 + 2 by omega]
    simpa using ih
theorem Row.wrs {w : World} {g : Nat} {ws : List (Int × ByteArray)} (h : Row w g (wcells ws)) : Wrs w (some ⟨g, 0, none⟩) ws :=
  .inr ⟨g, 0, rfl, h.lt, fun i hi => by
    rw [Nat.zero_add]
    exact ⟨h.cell _ _ (wcells_at ws i hi).1, h.cell _ _ (wcells_at ws i hi).2⟩⟩

/-- Filled up to k, zeros behind. -/
def upTo (ss : List ByteArray) (k : Nat) : List Value := (ss.take k).map Value.string ++ List.replicate (ss.length - k) (.string ByteArray.empty)
theorem upTo_length (ss : List ByteArray) (k : Nat) (h : k ≤ ss.length) : (upTo ss k).length = ss.length := by simp [upTo]; omega
theorem upTo_all (ss : List ByteArray) (k : Nat) (h : ss.length ≤ k) : upTo ss k = ss.map Value.string := by
  unfold upTo; rw [List.take_of_length_le h, show ss.length - k = 0 by omega]; simp
theorem upTo_set (ss : List ByteArray) (k : Nat) (h : k < ss.length) : (upTo ss k).set k (.string (ss.getD k ByteArray.empty)) = upTo ss (k + 1) := by
  unfold upTo
  rw [List.set_append_right _ _ (by simp; omega)]
  have e1 : k - ((ss.take k).map Value.string).length = 0 := by simp; omega
  rw [e1, show ss.length - k = (ss.length - (k + 1)) + 1 by omega, List.replicate_succ, List.set_cons_zero, List.take_succ_eq_append_getElem h, List.map_append, List.append_assoc]
  simp [List.getD, h]
def wupTo (ws : List (Int × ByteArray)) (k : Nat) : List Value := wcells (ws.take k) ++ wcells (List.replicate (ws.length - k) (0, ByteArray.empty))
theorem wupTo_length (ws : List (Int × ByteArray)) (k : Nat) (h : k ≤ ws.length) : (wupTo ws k).length = ws.length * 2 := by simp [wupTo, wcells_length]; omega
theorem wupTo_all (ws : List (Int × ByteArray)) (k : Nat) (h : ws.length ≤ k) : wupTo ws k = wcells ws := by
  unfold wupTo; rw [List.take_of_length_le h, show ws.length - k = 0 by omega]; simp [wcells]
theorem wupTo_set (ws : List (Int × ByteArray)) (k : Nat) (h : k < ws.length) : ((wupTo ws k).set (k * 2) (.int .i64 (ws.getD k (0, ByteArray.empty)).1)).set (k * 2 + 1) (.string (ws.getD k (0, ByteArray.empty)).2) = wupTo ws (k + 1) := by
  unfold wupTo
  have el : (wcells (ws.take k)).length = k * 2 := by rw [wcells_length]; simp; omega
  rw [List.set_append_right _ _ (by omega), List.set_append_right _ _ (by omega), el, show k * 2 - k * 2 = 0 by omega, show k * 2 + 1 - k * 2 = 1 by omega,
    show ws.length - k = (ws.length - (k + 1)) + 1 by omega, List.replicate_succ, List.take_succ_eq_append_getElem h, wcells_append, List.append_assoc]
  congr 1
  simp [wcells, List.getD, h]

/-- 'make([]T, n)': a new row of zeros. -/
theorem wpList_make_new {P : Program} {w : World} {ops : Array Oper} {rest : List Oper} {o : Oper} {a : Act} {Q : Exit → Act → World → Prop}
    (hg : o.guard = none) (l c : Operand) (t : TypeId) (hop : o.op = Op.makeSlice t l c) (e : TypeId) (z : Value) (size bytes : Nat) (ht : P.underlying t = some (.slice e)) (hinfo : (P.info? e).map (fun i => (i.zero, i.size, i.bytes)) = some (some z, size, bytes))
    (n : Nat) (hl : a.eval l = .int .i64 (n : Int)) (hc : a.eval c = .int .i64 (n : Int)) (hb : bytes * n ≤ 281474976710656) (hn : n ≤ 281474976710656)
    (h : ∀ wx, Row wx w.heap.size (madeCells z.cells (n * size)).toList → Below w.heap.size w wx → wx.heap.size = w.heap.size + 1 → wpList P ops Q rest (a.put o.dst (.slice (some ⟨w.heap.size, 0, none⟩) n n)) wx) : wpList P ops Q (o :: rest) a w := by
  refine wpList_plain hg fun K hK => ?_
  obtain ⟨i, hi, hh⟩ := Option.map_eq_some_iff.1 hinfo
  simp only [Prod.mk.injEq] at hh
  obtain ⟨h1, h2, h3⟩ := hh
  subst h2 h3
  have hbi : (i.bytes : Int) * (n : Int) ≤ 281474976710656 := by
    have : ((i.bytes * n : Nat) : Int) ≤ 281474976710656 := by omega
    rwa [Int.natCast_mul] at this
  have hr := run_make (P := P) w t e i z ht hi h1 .i64 .i64 n n (by omega) (Int.le_refl _) hbi (by omega)
  simp only [Int.toNat_natCast] at hr
  unfold Oper.wp
  simp [execOp, hop, hl, hc, hr, Result.andThen]
  exact hK _ _ (h _ (row_new _ _ _) ((Below.refl _ _).alloc (Nat.le_refl _) _) (by simp))
theorem made_strs (n : Nat) : (madeCells (Value.string ByteArray.empty).cells (n * 1)).toList = List.replicate n (.string ByteArray.empty) := by
  unfold madeCells
  rw [Nat.mul_one, Array.toList_map, Array.toList_range]
  rw [List.eq_replicate_iff]
  refine ⟨by simp, fun b hb => ?_⟩
  obtain ⟨i, _, rfl⟩ := List.mem_map.1 hb
  have : i % (Value.string ByteArray.empty).cells.size = 0 := by simp [Value.cells, Nat.mod_one]
  rw [this]; rfl
theorem made_wrs : ∀ (n : Nat), (madeCells (Value.agg #[.int .i64 0, .string ByteArray.empty]).cells (n * 2)).toList = wcells (List.replicate n (0, ByteArray.empty))
  | 0 => by simp [madeCells, wcells]
  | n + 1 => by
    have ih := made_wrs n
    unfold madeCells at ih ⊢
    rw [Array.toList_map, Array.toList_range] at ih ⊢
    rw [show (n + 1) * 2 = n * 2 + 1 + 1 by omega, List.range_succ, List.range_succ, List.map_append, List.map_append, ih, List.replicate_succ', wcells_append, List.append_assoc]
    congr 1
    have e0 : n * 2 % (Value.agg #[.int .i64 0, .string ByteArray.empty]).cells.size = 0 := by simp [Value.cells]
    have e1 : (n * 2 + 1) % (Value.agg #[.int .i64 0, .string ByteArray.empty]).cells.size = 1 := by simp [Value.cells]
    simp only [List.map_cons, List.map_nil]
    rw [e0, e1]
    rfl
end Go.Proofs.YtnmaknnnmjfhkaeDoor
