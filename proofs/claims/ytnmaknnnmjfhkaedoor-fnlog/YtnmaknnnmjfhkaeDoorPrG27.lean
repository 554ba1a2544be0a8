import Derived.Test.YtnmaknnnmjfhkaeDoorPrSz
import Derived.Test.YtnmaknnnmjfhkaeDoorPrG33
import Derived.Deep.RegionLaw
import Derived.Test.YtnmaknnnmjfhkaeDoorPrG32
import Derived.Deep.Onto
set_option maxHeartbeats 16000000
set_option maxRecDepth 8000
namespace Go.Proofs.YtnmaknnnmjfhkaeDoor
open Go.RowKit
set_option maxRecDepth 4000
theorem infoStr : (Tryd.prog.info? 9).map (fun i => (i.zero, i.size, i.bytes)) = some (some (.string ByteArray.empty), 1, 16) := by kernel_rfl
theorem infoWr : (Tryd.prog.info? 121).map (fun i => (i.zero, i.size, i.bytes)) = some (some (.agg #[.int .i64 0, .string ByteArray.empty]), 2, 24) := by kernel_rfl
theorem bcell {W w1 : World} (hb : Below W.heap.size W w1) : (∀ b o, b < W.heap.size → w1.cell? ⟨b, o, none⟩ = W.cell? ⟨b, o, none⟩) ∧ (∀ b o, b < W.heap.size → w1.frozen? ⟨b, o, none⟩ = W.frozen? ⟨b, o, none⟩) :=
  ⟨fun b o h => hb.cell (p := ⟨b, o, none⟩) h, fun b o h => hb.frozen (p := ⟨b, o, none⟩) h⟩
end Go.Proofs.YtnmaknnnmjfhkaeDoor

namespace Go.Proofs.YtnmaknnnmjfhkaeDoor
open Go.RowKit
set_option linter.unusedVariables false
theorem made_one (z : Value) (hz : z.cells = #[z]) (n : Nat) : (madeCells z.cells (n * 1)).toList = List.replicate n z := by
  unfold madeCells
  rw [Nat.mul_one, Array.toList_map, Array.toList_range, List.eq_replicate_iff]
  refine ⟨by simp, fun b hb => ?_⟩
  obtain ⟨i, _, rfl⟩ := List.mem_map.1 hb
  rw [hz]
  have : i % (#[z] : Array Value).size = 0 := by simp [Nat.mod_one]
  rw [this]; rfl
theorem Dsk.start (w : World) (t1 t2 e e' : TypeId) : Dsk w ((w.alloc (.cells #[.slice none 0 0, .slice none 0 0] t1)).alloc (.cells #[.slice none 0 0, .slice none 0 0] t2)) w.heap.size (w.heap.size + 1) (w.heap.size + 1 + 1) e e' (.slice none 0 0) (.slice none 0 0) [] [] := by
  have hb : Below w.heap.size w ((w.alloc (.cells #[.slice none 0 0, .slice none 0 0] t1)).alloc (.cells #[.slice none 0 0, .slice none 0 0] t2)) := ((Below.refl _ _).alloc (Nat.le_refl _) _).alloc (by simp) _
  have r1 := (row_new w #[.slice none 0 0, .slice none 0 0] t1).alloc (.cells #[.slice none 0 0, .slice none 0 0] t2)
  have r2 := row_new (w.alloc (.cells #[.slice none 0 0, .slice none 0 0] t1)) #[.slice none 0 0, .slice none 0 0] t2
  simp only [World.size_alloc] at r2
  exact ⟨Nat.le_refl _, by omega, by omega, by omega, by omega, by simp, hb, r1.cell 0 _ rfl, r1.cell 1 _ rfl, r1.froz 0 (by simp), r1.froz 1 (by simp), r2.cell 0 _ rfl, r2.cell 1 _ rfl, r2.froz 0 (by simp), r2.froz 1 (by simp), World.ownsRow_nil _ _ _ _, World.ownsRow_nil _ _ _ _, .inl rfl⟩
theorem info_parts' {P : Program} {e : TypeId} {z : Value} {size bytes : Nat} (h : (P.info? e).map (fun i => (i.zero, i.size, i.bytes)) = some (some z, size, bytes)) : ∃ i, P.info? e = some i ∧ i.zero = some z ∧ i.size = size ∧ i.bytes = bytes := by
  obtain ⟨i, hi, hh⟩ := Option.map_eq_some_iff.1 h
  simp only [Prod.mk.injEq] at hh
  exact ⟨i, hi, hh⟩
end Go.Proofs.YtnmaknnnmjfhkaeDoor

namespace Go.Proofs.YtnmaknnnmjfhkaeDoor
open Go.RowKit
theorem at_load {P : Program} {ops : Array Oper} {rest : List Oper} {op : Oper} {a : Act} {w : World} {Q : Exit → Act → World → Prop} (ty : TypeId) (x : Operand) (_ho : op.op = .load ty x) (h : wpList P ops Q (op :: rest) a w) : wpList P ops Q (op :: rest) a w := h
theorem at_store {P : Program} {ops : Array Oper} {rest : List Oper} {op : Oper} {a : Act} {w : World} {Q : Exit → Act → World → Prop} (ty : TypeId) (x y : Operand) (_ho : op.op = .store ty x y) (h : wpList P ops Q (op :: rest) a w) : wpList P ops Q (op :: rest) a w := h
end Go.Proofs.YtnmaknnnmjfhkaeDoor

namespace Go.Proofs.YtnmaknnnmjfhkaeDoor
open Go.RowKit
set_option maxRecDepth 4000
set_option linter.unusedVariables false
def Plt (w : World) (a : Option Addr) (ps : List (List Int)) : Prop :=
  ps = [] ∨ ∃ b o, a = some ⟨b, o, none⟩ ∧ b < w.heap.size ∧ ∀ i, i < ps.length → w.rangeAt b (o + i * 64) ((ps.getD i []).map (Value.int .u8))
def Hld (w : World) (a : Option Addr) (hs : List (Int × List Int)) : Prop :=
  hs = [] ∨ ∃ b o, a = some ⟨b, o, none⟩ ∧ b < w.heap.size ∧ ∀ i, i < hs.length → w.rangeAt b (o + i * 65) (.int .i64 (hs.getD i (0, [])).1 :: (hs.getD i (0, [])).2.map (Value.int .u8))
theorem range_below {w w' : World} {b o : Nat} {cs : List Value} (h : w.rangeAt b o cs) (hb : Below w.heap.size w w') (hlt : b < w.heap.size) : w'.rangeAt b o cs := fun j v hv => (hb.cell (p := ⟨b, o + j, none⟩) hlt).trans (h j v hv)
theorem Plt.below {w w' : World} {a : Option Addr} {ps : List (List Int)} (h : Plt w a ps) (hb : Below w.heap.size w w') : Plt w' a ps := by
  rcases h with h | ⟨b, o, h1, h2, h3⟩
  · exact .inl h
  · exact .inr ⟨b, o, h1, Nat.lt_of_lt_of_le h2 hb.size, fun i hi => range_below (h3 i hi) hb h2⟩
theorem Hld.below {w w' : World} {a : Option Addr} {hs : List (Int × List Int)} (h : Hld w a hs) (hb : Below w.heap.size w w') : Hld w' a hs := by
  rcases h with h | ⟨b, o, h1, h2, h3⟩
  · exact .inl h
  · exact .inr ⟨b, o, h1, Nat.lt_of_lt_of_le h2 hb.size, fun i hi => range_below (h3 i hi) hb h2⟩
theorem Plt.at {w : World} {a : Option Addr} {ps : List (List Int)} (h : Plt w a ps) {k : Nat} (hk : k < ps.length) : ∃ b o x, a = some ⟨b, o, none⟩ ∧ b < w.heap.size ∧ w.rangeAt b (o + k * 64) (x.map (Value.int .u8)) ∧ Hid (x = ps.getD k []) := by
  rcases h with h | ⟨b, o, h1, h2, h3⟩
  · subst h; simp at hk
  · exact ⟨b, o, _, h1, h2, h3 k hk, hid rfl⟩
theorem Hld.at {w : World} {a : Option Addr} {hs : List (Int × List Int)} (h : Hld w a hs) {k : Nat} (hk : k < hs.length) : ∃ b o n x, a = some ⟨b, o, none⟩ ∧ b < w.heap.size ∧ w.rangeAt b (o + k * 65) (.int .i64 n :: x.map (Value.int .u8)) ∧ Hid ((n, x) = hs.getD k (0, [])) := by
  rcases h with h | ⟨b, o, h1, h2, h3⟩
  · subst h; simp at hk
  · exact ⟨b, o, _, _, h1, h2, h3 k hk, hid rfl⟩
theorem held_one (n : Int) (xs : List Int) : ∀ v ∈ Value.int .i64 n :: xs.map (Value.int .u8), v.oneCell' = true := fun v hv => by
  rcases List.mem_cons.1 hv with rfl | hv
  · rfl
  · exact ints_one xs v hv
theorem there_any (w : World) (A : Array Value) (t : TypeId) : (w.alloc (.cells A t)).there w.heap.size 0 A.size := fun j hj => by
  rw [Nat.zero_add, World.cell?_alloc_at _ _ _ _ rfl, frozen?_alloc_cells]
  exact ⟨by simp [hj], frozen_past _ _ _ (Nat.le_refl _)⟩
theorem wpList_store_cells {P : Program} {ops : Array Oper} {rest : List Oper} {op : Oper} {a : Act} {w : World} {Q : Exit → Act → World → Prop} (hgd : op.guard = none) (ty : TypeId) (x y : Operand) (ho : op.op = .store ty x y)
    (cs : List Value) (h1 : ∀ v ∈ cs, v.oneCell' = true) (hx : a.eval x = .pointer (some ⟨w.heap.size, 0, none⟩)) (hy : a.eval y = .agg cs.toArray) (A : Array Value) (t : TypeId) (hA : A.size = cs.length)
    (hi : (P.info? ty).map (·.size) = some cs.length)
    (h : ∀ wx, Row wx w.heap.size cs → Below w.heap.size w wx → wx.heap.size = w.heap.size + 1 → wpList P ops Q rest (a.put op.dst undef) wx) : wpList P ops Q (op :: rest) a (w.alloc (.cells A t)) := by
  have hth := there_any w A t
  rw [hA] at hth
  have hz : cs.toArray.size = cs.length := by simp
  refine wpList_store_mid hgd ty x y ho w.heap.size 0 _ hx hy (by rw [hz]; exact hth) (by rw [hz]; exact hi) (all_oneCell_toArray h1) ?_
  have hr := World.rangeAt_setCells_same (w.alloc (.cells A t)) w.heap.size 0 cs hth
  refine h _ ⟨by rw [setCells_size]; simp, fun i v hv => ?_, fun i hi => ?_⟩ (Go.below_setCells (Nat.le_refl _) _ _ _ ((Below.refl _ _).alloc (Nat.le_refl _) _)) (by rw [setCells_size]; simp)
  · have := hr i v hv
    simpa using this
  · rw [World.frozen?_setCells, frozen?_alloc_cells]; exact frozen_past _ _ _ (Nat.le_refl _)
theorem Row.text {P : Program} {w : World} {g : Nat} {cs : List Value} (h : Row w g cs) (xs : List Int) (o n cap : Nat) (hx : xs.length = n) (hc : ∀ i, i < n → cs[o + i]? = some (.int .u8 (xs.getD i 0))) (src e dst : TypeId) (hs : P.underlying src = some (.slice e)) (he : P.underlying e = some (.int .u8)) (hd : P.underlying dst = some .string) :
    (convert src dst (.slice (some ⟨g, o, none⟩) n cap)).run P w = .ok (.string (strOfNums xs)) w :=
  run_convert_bytes_arg (P := P) w src e hs he g o n cap xs hx (fun i hi => h.cell _ _ (hc i hi)) dst hd
theorem Dsk.start3 (w : World) (c0 c1 : Value) (t0 t1 t2 e e' : TypeId) : Dsk w (((w.alloc (.cells #[c0, c1] t0)).alloc (.cells #[.slice none 0 0, .slice none 0 0] t1)).alloc (.cells #[.slice none 0 0, .slice none 0 0] t2)) (w.heap.size + 1) (w.heap.size + 1 + 1) (w.heap.size + 1 + 1 + 1) e e' (.slice none 0 0) (.slice none 0 0) [] [] := by
  have hb : Below w.heap.size w (((w.alloc (.cells #[c0, c1] t0)).alloc (.cells #[.slice none 0 0, .slice none 0 0] t1)).alloc (.cells #[.slice none 0 0, .slice none 0 0] t2)) := (((Below.refl _ _).alloc (Nat.le_refl _) _).alloc (by simp) _).alloc (by simp; omega) _
  have r1 := (row_new (w.alloc (.cells #[c0, c1] t0)) #[.slice none 0 0, .slice none 0 0] t1).alloc (.cells #[.slice none 0 0, .slice none 0 0] t2)
  have r2 := row_new ((w.alloc (.cells #[c0, c1] t0)).alloc (.cells #[.slice none 0 0, .slice none 0 0] t1)) #[.slice none 0 0, .slice none 0 0] t2
  simp only [World.size_alloc] at r1 r2
  exact ⟨by omega, by omega, by omega, by omega, by omega, by simp, hb, r1.cell 0 _ rfl, r1.cell 1 _ rfl, r1.froz 0 (by simp), r1.froz 1 (by simp), r2.cell 0 _ rfl, r2.cell 1 _ rfl, r2.froz 0 (by simp), r2.froz 1 (by simp), World.ownsRow_nil _ _ _ _, World.ownsRow_nil _ _ _ _, .inl rfl⟩
theorem Dsk.far {W w w1 : World} {R D base : Nat} {e e' : TypeId} {v v' : Value} {ss : List ByteArray} {ws : List (Int × ByteArray)} (h : Dsk W w R D base e e' v v' ss ws) (hg : w.grownBy w1 v.ownBlock) (b i j : Nat) (hb : b < base) (hn : b ≠ D) (u : Value) : (w1.setCell ⟨D, j, none⟩ u).cell? ⟨b, i, none⟩ = w.cell? ⟨b, i, none⟩ := by
  have lb : b < w.heap.size := Nat.lt_of_lt_of_le hb h.sz
  have nb : some b ≠ v.ownBlock := fun he => by have := (h.own.lt b he.symm).1; omega
  rw [World.cell?_setCell_other (w := w1) (h := show (⟨D, j, none⟩ : Addr) ≠ ⟨b, i, none⟩ from fun he => hn (by injection he with h1; exact h1.symm))]
  exact hg.cell_far ⟨b, i, none⟩ lb nb
def secs (ps : List (List Int)) : List ByteArray := ps.map strOfNums
def held (hs : List (Int × List Int)) : List (Int × ByteArray) := hs.map fun x => (x.1, strOfNums x.2)
def heldZ : Array Value := #[.int .i64 0] ++ Array.replicate 64 (.int .u8 0)
theorem zeroHeld (w : World) : (zeroValue 119).run Tryd.prog w = .ok (.agg heldZ) w := by kernel_rfl
theorem secs_take (ps : List (List Int)) (k : Nat) (h : k < ps.length) : secs (ps.take (k + 1)) = secs (ps.take k) ++ [strOfNums (ps.getD k [])] := by
  unfold secs
  rw [List.take_succ_eq_append_getElem h, List.map_append]
  simp [List.getD, h]
theorem held_take (hs : List (Int × List Int)) (k : Nat) (h : k < hs.length) : held (hs.take (k + 1)) = held (hs.take k) ++ [((hs.getD k (0, [])).1, strOfNums (hs.getD k (0, [])).2)] := by
  unfold held
  rw [List.take_succ_eq_append_getElem h, List.map_append]
  simp [List.getD, h]
end Go.Proofs.YtnmaknnnmjfhkaeDoor

namespace Go.Proofs.YtnmaknnnmjfhkaeDoor
open Go.RowKit
set_option maxRecDepth 4000
set_option linter.unusedVariables false
def secZ : Value := .agg (Array.replicate 64 (.int .u8 0))
theorem infoSec : (Tryd.prog.info? 98).map (fun i => (i.zero, i.size, i.bytes)) = some (some secZ, 64, 64) := by kernel_rfl
theorem made_secs (n : Nat) : (madeCells secZ.cells (n * 64)).toList = List.replicate (n * 64) (.int .u8 0) := by
  unfold madeCells
  rw [Array.toList_map, Array.toList_range, List.eq_replicate_iff]
  refine ⟨by simp, fun b hb => ?_⟩
  obtain ⟨i, _, rfl⟩ := List.mem_map.1 hb
  have e1 : secZ.cells = Array.replicate 64 (.int .u8 0) := rfl
  have e2 : i % (Array.replicate 64 (Value.int .u8 0)).size < 64 := by rw [Array.size_replicate]; omega
  rw [e1]
  rw [getElem!_pos _ _ (by rw [Array.size_replicate] at e2 ⊢; exact e2)]
  simp
theorem plt_zero {w : World} {g : Nat} {n : Nat} (h : Row w g (List.replicate (n * 64) (.int .u8 0))) : Plt w (some ⟨g, 0, none⟩) (List.replicate n (List.replicate 64 0)) := by
  refine .inr ⟨g, 0, rfl, h.lt, fun i hi j v hv => ?_⟩
  rw [List.length_replicate] at hi
  have hg : (List.replicate n (List.replicate 64 (0 : Int))).getD i [] = List.replicate 64 0 := by rw [List.getD_eq_getElem?_getD, List.getElem?_replicate, if_pos hi]; rfl
  rw [hg, List.map_replicate, List.getElem?_replicate] at hv
  by_cases hj : j < 64
  · rw [if_pos hj] at hv
    cases hv
    rw [Nat.zero_add]
    exact h.cell _ _ (by rw [List.getElem?_replicate, if_pos (by omega)])
  · rw [if_neg hj] at hv; cases hv
end Go.Proofs.YtnmaknnnmjfhkaeDoor

namespace Go.Proofs.YtnmaknnnmjfhkaeDoor
open Go.RowKit
structure Cx (w : World) (B : Nat) (v0 v1 : Value) : Prop where
  lt : B < w.heap.size
  c0 : w.cell? ⟨B, 0, none⟩ = some v0
  c1 : w.cell? ⟨B, 1, none⟩ = some v1
theorem Cx.below {w w' : World} {B : Nat} {v0 v1 : Value} (h : Cx w B v0 v1) (hb : Below w.heap.size w w') : Cx w' B v0 v1 :=
  ⟨Nat.lt_of_lt_of_le h.lt hb.size, (hb.cell (p := ⟨_, 0, none⟩) h.lt).trans h.c0, (hb.cell (p := ⟨_, 1, none⟩) h.lt).trans h.c1⟩
theorem Cx.grown {w w' : World} {B : Nat} {v0 v1 : Value} {r : Option Nat} (h : Cx w B v0 v1) (hg : w.grownBy w' r) (hn : some B ≠ r) : Cx w' B v0 v1 :=
  ⟨Nat.lt_of_lt_of_le h.lt hg.size, (World.cell?_of_block (a := ⟨B, 0, none⟩) (hg.block B h.lt hn)).trans h.c0, (World.cell?_of_block (a := ⟨B, 1, none⟩) (hg.block B h.lt hn)).trans h.c1⟩
theorem Cx.drew {w : World} {B : Nat} {v0 v1 : Value} (h : Cx w B v0 v1) : Cx w.drew B v0 v1 := ⟨h.lt, h.c0, h.c1⟩
theorem Cx.new (w : World) (v0 v1 : Value) (t : TypeId) : Cx (w.alloc (.cells #[v0, v1] t)) w.heap.size v0 v1 :=
  ⟨by simp, by rw [World.cell?_alloc_at _ _ _ _ rfl]; rfl, by rw [World.cell?_alloc_at _ _ _ _ rfl]; rfl⟩
theorem below_new (w : World) (o : Obj) : Below w.heap.size w (w.alloc o) := (Below.refl _ _).alloc (Nat.le_refl _) _
theorem Below.then {B : Nat} {a b c : World} (h : Below B a b) (hB : B ≤ a.heap.size) (k : Below b.heap.size b c) : Below B a c := h.trans (k.mono (Nat.le_trans hB h.size))
end Go.Proofs.YtnmaknnnmjfhkaeDoor

namespace Go.Proofs.YtnmaknnnmjfhkaeDoor
open Go.RowKit
set_option linter.unusedVariables false
theorem row_new' (w : World) (A : Array Value) (t : TypeId) (g : Nat) (hg : g = w.heap.size) : Row (w.alloc (.cells A t)) g A.toList := by subst hg; exact row_new w A t
theorem at_copy {P : Program} {ops : Array Oper} {rest : List Oper} {op : Oper} {a : Act} {w : World} {Q : Exit → Act → World → Prop} (d x : Operand) (ts : Array TypeId) (_ho : op.op = .call { callee := .builtin .copy, args := #[d, x], argTypes := ts }) (h : wpList P ops Q (op :: rest) a w) : wpList P ops Q (op :: rest) a w := h
theorem wpList_copy_text {P : Program} {ops : Array Oper} {rest : List Oper} {o : Oper} {a : Act} {w : World} {Q : Exit → Act → World → Prop} (hgd : o.guard = none) (d x : Operand) (dT sT : TypeId)
    (hop : o.op = .call { callee := .builtin .copy, args := #[d, x], argTypes := #[dT, sT] }) (elem : TypeId) (hu : P.underlying dT = some (.slice elem)) (hz : ∀ w, (Go.sizeOf elem).run P w = .ok 1 w)
    (g n cap : Nat) (hd : a.eval d = .slice (some ⟨g, 0, none⟩) n cap) (t : ByteArray) (hx : a.eval x = .string t) (hn : t.size = n) (cs : List Value) (hrow : Row w g cs) (hcs : cs.length = n)
    (h : ∀ wx, Row wx g ((nums t).map (Value.int .u8)) → w.grownBy wx (some g) → wx.heap.size = w.heap.size → wpList P ops Q rest (a.put o.dst (goInt t.size)) wx) : wpList P ops Q (o :: rest) a w := by
  have hc : ∀ j, j < t.size → (w.cell? ⟨g, 0 + j, none⟩).isSome = true := fun j hj => by
    rw [Nat.zero_add, hrow.cell j _ (List.getElem?_eq_getElem (by omega))]; rfl
  have hf : ∀ j, j < t.size → w.frozen? ⟨g, 0 + j, none⟩ = false := fun j hj => by rw [Nat.zero_add]; exact hrow.froz j (by omega)
  have hrun := run_copy_string (P := P) w dT sT o.type elem g 0 n cap t hu hz (by omega) hc hf
  have hW := wrote_setCells w g 0 t hc
  refine wpList_plain hgd fun K hK => ?_
  unfold Oper.wp
  simp [execOp, hop, resolve, invoke, builtin, hd, hx, hrun, Result.andThen]
  refine hK _ _ (h _ ⟨by rw [hW.size]; exact hrow.lt, fun i v hv => ?_, fun i hi => ?_⟩ ⟨hW.os, hW.tape, hW.output, Nat.le_of_eq hW.size.symm, fun k _ hk => hW.others k (fun e => hk (by rw [e]))⟩ hW.size)
  · obtain ⟨hj, e⟩ := List.getElem?_eq_some_iff.1 hv
    simp at hj
    have := hW.inside i (by simpa [nums_length] using hj)
    rw [Nat.zero_add] at this
    rw [this]
    simp at e
    subst e
    simp [List.getD, List.getElem?_eq_getElem hj]
  · rw [hW.frozen]; exact hrow.froz i (by simp [nums_length] at hi; omega)
theorem Row.range {w : World} {g : Nat} {cs : List Value} (h : Row w g cs) : w.rangeAt g 0 cs := fun j v hv => by rw [Nat.zero_add]; exact h.cell j v hv
theorem Row.there {w : World} {g n : Nat} {cs : List Value} (h : Row w g cs) (hn : n = cs.length) : w.there g 0 n := fun j hj => by
  rw [Nat.zero_add, h.cell j _ (List.getElem?_eq_getElem (by omega))]; exact ⟨rfl, h.froz j (by omega)⟩
def sec64 : Array Value := Array.replicate 64 (.int .u8 0)
set_option maxRecDepth 4000 in
set_option maxHeartbeats 16000000 in
theorem sec_i (t : ByteArray) (w : World) (ht : t.size = 64) :
    Calls Tryd.prog 74 #[.string t] w fun e w' => e = .returned (.agg ((nums t).map (Value.int .u8)).toArray) ∧ Below w.heap.size w w' := by
  have hnl : (nums t).length = 64 := by rw [nums_length, ht]
  have HI64 : Hid ((Tryd.prog.info? 98).map (·.size) = some ((nums t).map (Value.int .u8)).length) := by show _ = _; rw [List.length_map, hnl]; kernel_rfl
  have hlm : ((nums t).map (Value.int .u8)).toArray.size = 64 := by simp [hnl]
  have HT := hid ht
  clear ht
  go_enter Tryd.func74, Tryd.ntmps74
  go_wp2_with (first | (with_reducible refine at_copy _ _ _ rfl ?_; refine wpList_copy_text rfl _ _ _ _ rfl 5 Tryd.underlying22 (fun _ => by kernel_rfl) (w.heap.size + 1) 64 64 rfl t rfl HT.out _ (by exact row_new' _ _ _ _ (by simp)) (by kernel_rfl) ?_; intro wx hrow hgr hsz; have hR := (((row_new w _ _).alloc _).grown hgr (by simp)); have HB := hid ((((Below.refl _ _).alloc (Nat.le_refl _) _).alloc (by simp) _).trans (grown_below hgr (by simp; omega) (fun g hg => by cases hg; omega))); clear hgr hsz) | (with_reducible refine at_load 98 _ rfl ?_; refine wpList_load_mid rfl 98 _ rfl (w.heap.size + 1) 0 rfl ((nums t).map (Value.int .u8)) _ hrow.range Tryd.underlying98 rfl HI64.out ?_) | (with_reducible refine at_store 98 _ _ rfl ?_; refine wpList_store_mid rfl 98 _ _ rfl w.heap.size 0 ((nums t).map (Value.int .u8)).toArray rfl rfl (by rw [hlm]; exact hR.there (by kernel_rfl)) (by rw [hlm]; kernel_rfl) (all_oneCell_toArray (ints_one (nums t))) ?_))
  refine bodyPost_ret (v := .agg ((nums t).map (Value.int .u8)).toArray) (results_cell1 (p := 2) Tryd.results74 _ _ w.heap.size 0 rfl ((nums t).map (Value.int .u8)) _ (World.rangeAt_setCells_same _ _ _ _ (by rw [List.length_map, hnl]; exact hR.there (by kernel_rfl))) Tryd.underlying98 rfl HI64.out) rfl ⟨rfl, ?_⟩
  exact Go.below_setCells (Nat.le_refl _) _ _ _ HB.out
end Go.Proofs.YtnmaknnnmjfhkaeDoor
