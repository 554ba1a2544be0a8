import Derived.Test.YtnmaknnnmjfhkaeDoorQxScanTo
import Derived.Test.YtnmaknnnmjfhkaeDoorQxScanDsk
import Derived.Test.YtnmaknnnmjfhkaeDoorQxScanStp
import Derived.Deep.RegionLaw
import Derived.Test.YtnmaknnnmjfhkaeDoorQxScanFill
import Derived.Deep.Onto

set_option maxHeartbeats 16000000
set_option maxRecDepth 8000
namespace Go.Proofs.YtnmaknnnmjfhkaeDoor
open Go.RowKit
set_option linter.unusedVariables false

theorem made_one (z : Value) (hz : z.cells = #[z]) (n : Nat) : (madeCells z.cells (n * 1)).toList = List.replicate n z := by
  unfold madeCells
  rw [Nat.mul_one, Array.toList_map, Array.toList_range, List.eq_replicate_iff]
  refine ⟨by simp, fun b hb => ?_⟩
  obtain ⟨i, _, rfl⟩ := List.mem_map.1 hb
  rw [hz]
  have : i % (#[z] : Array Value).size = 0 := by simp [Nat.mod_one]
  rw [this]; rfl
theorem Dsk.start (w : World) (t1 t2 e e' : TypeId) : Dsk w ((w.alloc (.cells #[.slice none 0 0, .slice none 0 0] t1)).alloc (.cells #[.slice none 0 0, .slice none 0 0] t2)) w.heap.size (w.heap.size + 1) (w.heap.size + 1 + 1) e e' (.slice none 0 0) (.slice none 0 0) [] [] := by
  have hb : Below w.heap.size w ((w.alloc (.cells #[.slice none 0 0, .slice none 0 0] t1)).alloc (.cells #[.slice none 0 0, .slice none 0 0] t2)) := ((Below.refl _ _).alloc (Nat.le_refl _) _).alloc (by simp) _
  have r1 := (row_new w #[.slice none 0 0, .slice none 0 0] t1).alloc (.cells #[.slice none 0 0, .slice none 0 0] t2)
  have r2 := row_new (w.alloc (.cells #[.slice none 0 0, .slice none 0 0] t1)) #[.slice none 0 0, .slice none 0 0] t2
  simp only [World.size_alloc] at r2
  exact ⟨Nat.le_refl _, by omega, by omega, by omega, by omega, by simp, hb, r1.cell 0 _ rfl, r1.cell 1 _ rfl, r1.froz 0 (by simp), r1.froz 1 (by simp), r2.cell 0 _ rfl, r2.cell 1 _ rfl, r2.froz 0 (by simp), r2.froz 1 (by simp), World.ownsRow_nil _ _ _ _, World.ownsRow_nil _ _ _ _, .inl rfl⟩

theorem info_parts' {P : Program} {e : TypeId} {z : Value} {size bytes : Nat} (h : (P.info? e).map (fun i => (i.zero, i.size, i.bytes)) = some (some z, size, bytes)) : ∃ i, P.info? e = some i ∧ i.zero = some z ∧ i.size = size ∧ i.bytes = bytes := by
  obtain ⟨i, hi, hh⟩ := Option.map_eq_some_iff.1 h
  simp only [Prod.mk.injEq] at hh
  exact ⟨i, hi, hh⟩

end Go.Proofs.YtnmaknnnmjfhkaeDoor

namespace Go.Proofs.YtnmaknnnmjfhkaeDoor
open Go.RowKit
/-- Guards: the next operation is such a load, such a store. -/
theorem at_load {P : Program} {ops : Array Oper} {rest : List Oper} {op : Oper} {a : Act} {w : World} {Q : Exit → Act → World → Prop} (ty : TypeId) (x : Operand) (_ho : op.op = .load ty x) (h : wpList P ops Q (op :: rest) a w) : wpList P ops Q (op :: rest) a w := h
theorem at_store {P : Program} {ops : Array Oper} {rest : List Oper} {op : Oper} {a : Act} {w : World} {Q : Exit → Act → World → Prop} (ty : TypeId) (x y : Operand) (_ho : op.op = .store ty x y) (h : wpList P ops Q (op :: rest) a w) : wpList P ops Q (op :: rest) a w := h
end Go.Proofs.YtnmaknnnmjfhkaeDoor

namespace Go.Proofs.YtnmaknnnmjfhkaeDoor
open Go.RowKit
set_option maxRecDepth 4000
set_option linter.unusedVariables false

/-- Sectors as rows of bytes, one behind the other: what a slice of them shows. -/
def Plt (w : World) (a : Option Addr) (ps : List (List Int)) : Prop :=
  ps = [] ∨ ∃ b o, a = some ⟨b, o, none⟩ ∧ b < w.heap.size ∧ ∀ i, i < ps.length → w.rangeAt b (o + i * 64) ((ps.getD i []).map (Value.int .u8))
/-- Writes that are held: a number and a sector. -/
def Hld (w : World) (a : Option Addr) (hs : List (Int × List Int)) : Prop :=
  hs = [] ∨ ∃ b o, a = some ⟨b, o, none⟩ ∧ b < w.heap.size ∧ ∀ i, i < hs.length → w.rangeAt b (o + i * 65) (.int .i64 (hs.getD i (0, [])).1 :: (hs.getD i (0, [])).2.map (Value.int .u8))
theorem range_below {w w' : World} {b o : Nat} {cs : List Value} (h : w.rangeAt b o cs) (hb : Below w.heap.size w w') (hlt : b < w.heap.size) : w'.rangeAt b o cs := fun j v hv => (hb.cell (p := ⟨b, o + j, none⟩) hlt).trans (h j v hv)
theorem Plt.below {w w' : World} {a : Option Addr} {ps : List (List Int)} (h : Plt w a ps) (hb : Below w.heap.size w w') : Plt w' a ps := by
  rcases h with h | ⟨b, o, h1, h2, h3⟩
  · exact .inl h
  · exact .inr ⟨b, o, h1, Nat.lt_of_lt_of_le h2 hb.size, fun i hi => range_below (h3 i hi) hb h2⟩
theorem Hld.below {w w' : World} {a : Option Addr} {hs : List (Int × List Int)} (h : Hld w a hs) (hb : Below w.heap.size w w') : Hld w' a hs := by
  rcases h with h | ⟨b, o, h1, h2, h3⟩
  · exact .inl h
  · exact .inr ⟨b, o, h1, Nat.lt_of_lt_of_le h2 hb.size, fun i hi => range_below (h3 i hi) hb h2⟩
theorem Plt.at {w : World} {a : Option Addr} {ps : List (List Int)} (h : Plt w a ps) {k : Nat} (hk : k < ps.length) : ∃ b o x, a = some ⟨b, o, none⟩ ∧ b < w.heap.size ∧ w.rangeAt b (o + k * 64) (x.map (Value.int .u8)) ∧ Hid (x = ps.getD k []) := by
  rcases h with h | ⟨b, o, h1, h2, h3⟩
  · subst h; simp at hk
  · exact ⟨b, o, _, h1, h2, h3 k hk, hid rfl⟩
theorem Hld.at {w : World} {a : Option Addr} {hs : List (Int × List Int)} (h : Hld w a hs) {k : Nat} (hk : k < hs.length) : ∃ b o n x, a = some ⟨b, o, none⟩ ∧ b < w.heap.size ∧ w.rangeAt b (o + k * 65) (.int .i64 n :: x.map (Value.int .u8)) ∧ Hid ((n, x) = hs.getD k (0, [])) := by
  rcases h with h | ⟨b, o, h1, h2, h3⟩
  · subst h; simp at hk
  · exact ⟨b, o, _, _, h1, h2, h3 k hk, hid rfl⟩

theorem held_one (n : Int) (xs : List Int) : ∀ v ∈ Value.int .i64 n :: xs.map (Value.int .u8), v.oneCell' = true := fun v hv => by
  rcases List.mem_cons.1 hv with rfl | hv
  · rfl
  · exact ints_one xs v hv
theorem there_any (w : World) (A : Array Value) (t : TypeId) : (w.alloc (.cells A t)).there w.heap.size 0 A.size := fun j hj => by
  rw [Nat.zero_add, World.cell?_alloc_at _ _ _ _ rfl, frozen?_alloc_cells]
  exact ⟨by simp [hj], frozen_past _ _ _ (Nat.le_refl _)⟩
/-- Cells go into a variable that was just made. -/
theorem wpList_store_cells {P : Program} {ops : Array Oper} {rest : List Oper} {op : Oper} {a : Act} {w : World} {Q : Exit → Act → World → Prop} (hgd : op.guard = none) (ty : TypeId) (x y : Operand) (ho : op.op = .store ty x y)
    (cs : List Value) (h1 : ∀ v ∈ cs, v.oneCell' = true) (hx : a.eval x = .pointer (some ⟨w.heap.size, 0, none⟩)) (hy : a.eval y = .agg cs.toArray) (A : Array Value) (t : TypeId) (hA : A.size = cs.length)
    (hi : (P.info? ty).map (·.size) = some cs.length)
    (h : ∀ wx, Row wx w.heap.size cs → Below w.heap.size w wx → wx.heap.size = w.heap.size + 1 → wpList P ops Q rest (a.put op.dst undef) wx) : wpList P ops Q (op :: rest) a (w.alloc (.cells A t)) := by
  have hth := there_any w A t
  rw [hA] at hth
  have hz : cs.toArray.size = cs.length := by simp
  refine wpList_store_mid hgd ty x y ho w.heap.size 0 _ hx hy (by rw [hz]; exact hth) (by rw [hz]; exact hi) (all_oneCell_toArray h1) ?_
  have hr := World.rangeAt_setCells_same (w.alloc (.cells A t)) w.heap.size 0 cs hth
  refine h _ ⟨by rw [setCells_size]; simp, fun i v hv => ?_, fun i hi => ?_⟩ (Go.below_setCells (Nat.le_refl _) _ _ _ ((Below.refl _ _).alloc (Nat.le_refl _) _)) (by rw [setCells_size]; simp)
  · have := hr i v hv
    simpa using this
  · rw [World.frozen?_setCells, frozen?_alloc_cells]; exact frozen_past _ _ _ (Nat.le_refl _)
/-- 'string(row[o:o+n])' out of a row's cells. -/
theorem Row.text {P : Program} {w : World} {g : Nat} {cs : List Value} (h : Row w g cs) (xs : List Int) (o n cap : Nat) (hx : xs.length = n) (hc : ∀ i, i < n → cs[o + i]? = some (.int .u8 (xs.getD i 0))) (src e dst : TypeId) (hs : P.underlying src = some (.slice e)) (he : P.underlying e = some (.int .u8)) (hd : P.underlying dst = some .string) :
    (convert src dst (.slice (some ⟨g, o, none⟩) n cap)).run P w = .ok (.string (strOfNums xs)) w :=
  run_convert_bytes_arg (P := P) w src e hs he g o n cap xs hx (fun i hi => h.cell _ _ (hc i hi)) dst hd

theorem Dsk.start3 (w : World) (c0 c1 : Value) (t0 t1 t2 e e' : TypeId) : Dsk w (((w.alloc (.cells #[c0, c1] t0)).alloc (.cells #[.slice none 0 0, .slice none 0 0] t1)).alloc (.cells #[.slice none 0 0, .slice none 0 0] t2)) (w.heap.size + 1) (w.heap.size + 1 + 1) (w.heap.size + 1 + 1 + 1) e e' (.slice none 0 0) (.slice none 0 0) [] [] := by
  have hb : Below w.heap.size w (((w.alloc (.cells #[c0, c1] t0)).alloc (.cells #[.slice none 0 0, .slice none 0 0] t1)).alloc (.cells #[.slice none 0 0, .slice none 0 0] t2)) := (((Below.refl _ _).alloc (Nat.le_refl _) _).alloc (by simp) _).alloc (by simp; omega) _
  have r1 := (row_new (w.alloc (.cells #[c0, c1] t0)) #[.slice none 0 0, .slice none 0 0] t1).alloc (.cells #[.slice none 0 0, .slice none 0 0] t2)
  have r2 := row_new ((w.alloc (.cells #[c0, c1] t0)).alloc (.cells #[.slice none 0 0, .slice none 0 0] t1)) #[.slice none 0 0, .slice none 0 0] t2
  simp only [World.size_alloc] at r1 r2
  exact ⟨by omega, by omega, by omega, by omega, by omega, by simp, hb, r1.cell 0 _ rfl, r1.cell 1 _ rfl, r1.froz 0 (by simp), r1.froz 1 (by simp), r2.cell 0 _ rfl, r2.cell 1 _ rfl, r2.froz 0 (by simp), r2.froz 1 (by simp), World.ownsRow_nil _ _ _ _, World.ownsRow_nil _ _ _ _, .inl rfl⟩

theorem Dsk.far {W w w1 : World} {R D base : Nat} {e e' : TypeId} {v v' : Value} {ss : List ByteArray} {ws : List (Int × ByteArray)} (h : Dsk W w R D base e e' v v' ss ws) (hg : w.grownBy w1 v.ownBlock) (b i j : Nat) (hb : b < base) (hn : b ≠ D) (u : Value) : (w1.setCell ⟨D, j, none⟩ u).cell? ⟨b, i, none⟩ = w.cell? ⟨b, i, none⟩ := by
  have lb : b < w.heap.size := Nat.lt_of_lt_of_le hb h.sz
  have nb : some b ≠ v.ownBlock := fun he => by have := (h.own.lt b he.symm).1; omega
  rw [World.cell?_setCell_other (w := w1) (h := show (⟨D, j, none⟩ : Addr) ≠ ⟨b, i, none⟩ from fun he => hn (by injection he with h1; exact h1.symm))]
  exact hg.cell_far ⟨b, i, none⟩ lb nb

/-- What a drive is as a disk. -/
def secs (ps : List (List Int)) : List ByteArray := ps.map strOfNums
def held (hs : List (Int × List Int)) : List (Int × ByteArray) := hs.map fun x => (x.1, strOfNums x.2)

def heldZ : Array Value := #[.int .i64 0] ++ Array.replicate 64 (.int .u8 0)
theorem zeroHeld (w : World) : (zeroValue 119).run Tryd.prog w = .ok (.agg heldZ) w := by kernel_rfl
theorem secs_take (ps : List (List Int)) (k : Nat) (h : k < ps.length) : secs (ps.take (k + 1)) = secs (ps.take k) ++ [strOfNums (ps.getD k [])] := by
  unfold secs
  rw [List.take_succ_eq_append_getElem h, List.map_append]
  simp [List.getD, h]
theorem held_take (hs : List (Int × List Int)) (k : Nat) (h : k < hs.length) : held (hs.take (k + 1)) = held (hs.take k) ++ [((hs.getD k (0, [])).1, strOfNums (hs.getD k (0, [])).2)] := by
  unfold held
  rw [List.take_succ_eq_append_getElem h, List.map_append]
  simp [List.getD, h]
end Go.Proofs.YtnmaknnnmjfhkaeDoor
