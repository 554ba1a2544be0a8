import Derived.Test.YtnmaknnnmjfhkaeDoorMgXScan19
import Derived.Test.YtnmaknnnmjfhkaeDoorQxScanMkB
import Derived.Test.YtnmaknnnmjfhkaeDoorQxScanRow

set_option maxHeartbeats 16000000
set_option maxRecDepth 8000
namespace Go.Proofs.YtnmaknnnmjfhkaeDoor
open Go.RowKit
set_option maxRecDepth 4000
set_option linter.unusedVariables false

/-- A sector's cells, all zero. -/
def secZ : Value := .agg (Array.replicate 64 (.int .u8 0))
theorem infoSec : (Tryd.prog.info? 98).map (fun i => (i.zero, i.size, i.bytes)) = some (some secZ, 64, 64) := by kernel_rfl
theorem made_secs (n : Nat) : (madeCells secZ.cells (n * 64)).toList = List.replicate (n * 64) (.int .u8 0) := by
  unfold madeCells
  rw [Array.toList_map, Array.toList_range, List.eq_replicate_iff]
  refine ⟨by simp, fun b hb => ?_⟩
  obtain ⟨i, _, rfl⟩ := List.mem_map.1 hb
  have e1 : secZ.cells = Array.replicate 64 (.int .u8 0) := rfl
  have e2 : i % (Array.replicate 64 (Value.int .u8 0)).size < 64 := by rw [Array.size_replicate]; omega
  rw [e1]
  rw [getElem!_pos _ _ (by rw [Array.size_replicate] at e2 ⊢; exact e2)]
  simp
theorem plt_zero {w : World} {g : Nat} {n : Nat} (h : Row w g (List.replicate (n * 64) (.int .u8 0))) : Plt w (some ⟨g, 0, none⟩) (List.replicate n (List.replicate 64 0)) := by
  refine .inr ⟨g, 0, rfl, h.lt, fun i hi j v hv => ?_⟩
  rw [List.length_replicate] at hi
  have hg : (List.replicate n (List.replicate 64 (0 : Int))).getD i [] = List.replicate 64 0 := by rw [List.getD_eq_getElem?_getD, List.getElem?_replicate, if_pos hi]; rfl
  rw [hg, List.map_replicate, List.getElem?_replicate] at hv
  by_cases hj : j < 64
  · rw [if_pos hj] at hv
    cases hv
    rw [Nat.zero_add]
    exact h.cell _ _ (by rw [List.getElem?_replicate, if_pos (by omega)])
  · rw [if_neg hj] at hv; cases hv
end Go.Proofs.YtnmaknnnmjfhkaeDoor

namespace Go.Proofs.YtnmaknnnmjfhkaeDoor
open Go.RowKit

/-- A variable of two cells. -/
structure Cx (w : World) (B : Nat) (v0 v1 : Value) : Prop where
  lt : B < w.heap.size
  c0 : w.cell? ⟨B, 0, none⟩ = some v0
  c1 : w.cell? ⟨B, 1, none⟩ = some v1
theorem Cx.below {w w' : World} {B : Nat} {v0 v1 : Value} (h : Cx w B v0 v1) (hb : Below w.heap.size w w') : Cx w' B v0 v1 :=
  ⟨Nat.lt_of_lt_of_le h.lt hb.size, (hb.cell (p := ⟨_, 0, none⟩) h.lt).trans h.c0, (hb.cell (p := ⟨_, 1, none⟩) h.lt).trans h.c1⟩
theorem Cx.grown {w w' : World} {B : Nat} {v0 v1 : Value} {r : Option Nat} (h : Cx w B v0 v1) (hg : w.grownBy w' r) (hn : some B ≠ r) : Cx w' B v0 v1 :=
  ⟨Nat.lt_of_lt_of_le h.lt hg.size, (World.cell?_of_block (a := ⟨B, 0, none⟩) (hg.block B h.lt hn)).trans h.c0, (World.cell?_of_block (a := ⟨B, 1, none⟩) (hg.block B h.lt hn)).trans h.c1⟩
theorem Cx.drew {w : World} {B : Nat} {v0 v1 : Value} (h : Cx w B v0 v1) : Cx w.drew B v0 v1 := ⟨h.lt, h.c0, h.c1⟩
theorem Cx.new (w : World) (v0 v1 : Value) (t : TypeId) : Cx (w.alloc (.cells #[v0, v1] t)) w.heap.size v0 v1 :=
  ⟨by simp, by rw [World.cell?_alloc_at _ _ _ _ rfl]; rfl, by rw [World.cell?_alloc_at _ _ _ _ rfl]; rfl⟩
theorem below_new (w : World) (o : Obj) : Below w.heap.size w (w.alloc o) := (Below.refl _ _).alloc (Nat.le_refl _) _
theorem Below.then {B : Nat} {a b c : World} (h : Below B a b) (hB : B ≤ a.heap.size) (k : Below b.heap.size b c) : Below B a c := h.trans (k.mono (Nat.le_trans hB h.size))
end Go.Proofs.YtnmaknnnmjfhkaeDoor

namespace Go.Proofs.YtnmaknnnmjfhkaeDoor
open Go.RowKit
set_option linter.unusedVariables false

theorem row_new' (w : World) (A : Array Value) (t : TypeId) (g : Nat) (hg : g = w.heap.size) : Row (w.alloc (.cells A t)) g A.toList := by subst hg; exact row_new w A t
theorem at_copy {P : Program} {ops : Array Oper} {rest : List Oper} {op : Oper} {a : Act} {w : World} {Q : Exit → Act → World → Prop} (d x : Operand) (ts : Array TypeId) (_ho : op.op = .call { callee := .builtin .copy, args := #[d, x], argTypes := ts }) (h : wpList P ops Q (op :: rest) a w) : wpList P ops Q (op :: rest) a w := h
/-- 'copy(row[:], text)' where the row is as long as the text. -/
theorem wpList_copy_text {P : Program} {ops : Array Oper} {rest : List Oper} {o : Oper} {a : Act} {w : World} {Q : Exit → Act → World → Prop} (hgd : o.guard = none) (d x : Operand) (dT sT : TypeId)
    (hop : o.op = .call { callee := .builtin .copy, args := #[d, x], argTypes := #[dT, sT] }) (elem : TypeId) (hu : P.underlying dT = some (.slice elem)) (hz : ∀ w, (Go.sizeOf elem).run P w = .ok 1 w)
    (g n cap : Nat) (hd : a.eval d = .slice (some ⟨g, 0, none⟩) n cap) (t : ByteArray) (hx : a.eval x = .string t) (hn : t.size = n) (cs : List Value) (hrow : Row w g cs) (hcs : cs.length = n)
    (h : ∀ wx, Row wx g ((nums t).map (Value.int .u8)) → w.grownBy wx (some g) → wx.heap.size = w.heap.size → wpList P ops Q rest (a.put o.dst (goInt t.size)) wx) : wpList P ops Q (o :: rest) a w := by
  have hc : ∀ j, j < t.size → (w.cell? ⟨g, 0 + j, none⟩).isSome = true := fun j hj => by
    rw [Nat.zero_add, hrow.cell j _ (List.getElem?_eq_getElem (by omega))]; rfl
  have hf : ∀ j, j < t.size → w.frozen? ⟨g, 0 + j, none⟩ = false := fun j hj => by rw [Nat.zero_add]; exact hrow.froz j (by omega)
  have hrun := run_copy_string (P := P) w dT sT o.type elem g 0 n cap t hu hz (by omega) hc hf
  have hW := wrote_setCells w g 0 t hc
  refine wpList_plain hgd fun K hK => ?_
  unfold Oper.wp
  simp [execOp, hop, resolve, invoke, builtin, hd, hx, hrun, Result.andThen]
  refine hK _ _ (h _ ⟨by rw [hW.size]; exact hrow.lt, fun i v hv => ?_, fun i hi => ?_⟩ ⟨hW.os, hW.tape, hW.output, Nat.le_of_eq hW.size.symm, fun k _ hk => hW.others k (fun e => hk (by rw [e]))⟩ hW.size)
  · obtain ⟨hj, e⟩ := List.getElem?_eq_some_iff.1 hv
    simp at hj
    have := hW.inside i (by simpa [nums_length] using hj)
    rw [Nat.zero_add] at this
    rw [this]
    simp at e
    subst e
    simp [List.getD, List.getElem?_eq_getElem hj]
  · rw [hW.frozen]; exact hrow.froz i (by simp [nums_length] at hi; omega)

theorem Row.range {w : World} {g : Nat} {cs : List Value} (h : Row w g cs) : w.rangeAt g 0 cs := fun j v hv => by rw [Nat.zero_add]; exact h.cell j v hv
theorem Row.there {w : World} {g n : Nat} {cs : List Value} (h : Row w g cs) (hn : n = cs.length) : w.there g 0 n := fun j hj => by
  rw [Nat.zero_add, h.cell j _ (List.getElem?_eq_getElem (by omega))]; exact ⟨rfl, h.froz j (by omega)⟩
def sec64 : Array Value := Array.replicate 64 (.int .u8 0)
theorem zeroSec (w : World) : (zeroValue 98).run Tryd.prog w = .ok (.agg sec64) w := by kernel_rfl

set_option maxRecDepth 4000 in
set_option maxHeartbeats 16000000 in
theorem sec_i (t : ByteArray) (w : World) (ht : t.size = 64) :
    Calls Tryd.prog 74 #[.string t] w fun e w' => e = .returned (.agg ((nums t).map (Value.int .u8)).toArray) ∧ Below w.heap.size w w' := by
  have hnl : (nums t).length = 64 := by rw [nums_length, ht]
  have HI64 : Hid ((Tryd.prog.info? 98).map (·.size) = some ((nums t).map (Value.int .u8)).length) := by show _ = _; rw [List.length_map, hnl]; kernel_rfl
  have hlm : ((nums t).map (Value.int .u8)).toArray.size = 64 := by simp [hnl]
  have HT := hid ht
  clear ht
  go_enter Tryd.func74, Tryd.ntmps74
  go_wp2_with (first | (with_reducible refine at_copy _ _ _ rfl ?_; refine wpList_copy_text rfl _ _ _ _ rfl 5 Tryd.underlying22 (fun _ => by kernel_rfl) (w.heap.size + 1) 64 64 rfl t rfl HT.out _ (by exact row_new' _ _ _ _ (by simp)) (by kernel_rfl) ?_; intro wx hrow hgr hsz; have hR := (((row_new w _ _).alloc _).grown hgr (by simp)); have HB := hid ((((Below.refl _ _).alloc (Nat.le_refl _) _).alloc (by simp) _).trans (grown_below hgr (by simp; omega) (fun g hg => by cases hg; omega))); clear hgr hsz) | (with_reducible refine at_load 98 _ rfl ?_; refine wpList_load_mid rfl 98 _ rfl (w.heap.size + 1) 0 rfl ((nums t).map (Value.int .u8)) _ hrow.range Tryd.underlying98 rfl HI64.out ?_) | (with_reducible refine at_store 98 _ _ rfl ?_; refine wpList_store_mid rfl 98 _ _ rfl w.heap.size 0 ((nums t).map (Value.int .u8)).toArray rfl rfl (by rw [hlm]; exact hR.there (by kernel_rfl)) (by rw [hlm]; kernel_rfl) (all_oneCell_toArray (ints_one (nums t))) ?_))
  refine bodyPost_ret (v := .agg ((nums t).map (Value.int .u8)).toArray) (results_cell1 (p := 2) Tryd.results74 _ _ w.heap.size 0 rfl ((nums t).map (Value.int .u8)) _ (World.rangeAt_setCells_same _ _ _ _ (by rw [List.length_map, hnl]; exact hR.there (by kernel_rfl))) Tryd.underlying98 rfl HI64.out) rfl ⟨rfl, ?_⟩
  exact Go.below_setCells (Nat.le_refl _) _ _ _ HB.out
end Go.Proofs.YtnmaknnnmjfhkaeDoor

