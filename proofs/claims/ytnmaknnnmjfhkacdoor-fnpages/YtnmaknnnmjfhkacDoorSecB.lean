import Derived.Test.YtnmaknnnmjfhkacDoorAtl
import Derived.Test.YtnmaknnnmjfhkacDoorRow
import Derived.Test.YtnmaknnnmjfhkacDoorMkB
namespace Go.Proofs.YtnmaknnnmjfhkacDoor
open Go.RowKit
set_option linter.unusedVariables false

theorem row_new' (w : World) (A : Array Value) (t : TypeId) (g : Nat) (hg : g = w.heap.size) : Row (w.alloc (.cells A t)) g A.toList := by subst hg; exact row_new w A t
theorem at_copy {P : Program} {ops : Array Oper} {rest : List Oper} {op : Oper} {a : Act} {w : World} {Q : Exit → Act → World → Prop} (d x : Operand) (ts : Array TypeId) (_ho : op.op = .call { callee := .builtin .copy, args := #[d, x], argTypes := ts }) (h : wpList P ops Q (op :: rest) a w) : wpList P ops Q (op :: rest) a w := h
/-- 'copy(row[:], text)' where the row is as long as the text. -/
theorem wpList_copy_text {P : Program} {ops : Array Oper} {rest : List Oper} {o : Oper} {a : Act} {w : World} {Q : Exit → Act → World → Prop} (hgd : o.guard = none) (d x : Operand) (dT sT : TypeId)
    (hop : o.op = .call { callee := .builtin .copy, args := #[d, x], argTypes := #[dT, sT] }) (elem : TypeId) (hu : P.underlying dT = some (.slice elem)) (hz : ∀ w, (Go.sizeOf elem).run P w = .ok 1 w)
    (g n cap : Nat) (hd : a.eval d = .slice (some ⟨g, 0, none⟩) n cap) (t : ByteArray) (hx : a.eval x = .string t) (hn : t.size = n) (cs : List Value) (hrow : Row w g cs) (hcs : cs.length = n)
    (h : ∀ wx, Row wx g ((nums t).map (Value.int .u8)) → w.grownBy wx (some g) → wx.heap.size = w.heap.size → wpList P ops Q rest (a.put o.dst (goInt t.size)) wx) : wpList P ops Q (o :: rest) a w := by
  have hc : ∀ j, j < t.size → (w.cell? ⟨g, 0 + j, none⟩).isSome = true := fun j hj => by
    rw [Nat.zero_add, hrow.cell j _ (List.getElem?_eq_getElem (by omega))]; rfl
  have hf : ∀ j, j < t.size → w.frozen? ⟨g, 0 + j, none⟩ = false := fun j hj => by rw [Nat.zero_add]; exact hrow.froz j (by omega)
  have hrun := run_copy_string (P := P) w dT sT o.type elem g 0 n cap t hu hz (by omega) hc hf
  have hW := wrote_setCells w g 0 t hc
  refine wpList_plain hgd fun K hK => ?_
  unfold Oper.wp
  simp [execOp, hop, resolve, invoke, builtin, hd, hx, hrun, Result.andThen]
  refine hK _ _ (h _ ⟨by rw [hW.size]; exact hrow.lt, fun i v hv => ?_, fun i hi => ?_⟩ ⟨hW.os, hW.tape, hW.output, Nat.le_of_eq hW.size.symm, fun k _ hk => hW.others k (fun e => hk (by rw [e]))⟩ hW.size)
  · obtain ⟨hj, e⟩ := List.getElem?_eq_some_iff.1 hv
    simp at hj
    have := hW.inside i (by simpa [nums_length] using hj)
    rw [Nat.zero_add] at this
    rw [this]
    simp at e
    subst e
    simp [List.getD, List.getElem?_eq_getElem hj]
  · rw [hW.frozen]; exact hrow.froz i (by simp [nums_length] at hi; omega)

theorem Row.range {w : World} {g : Nat} {cs : List Value} (h : Row w g cs) : w.rangeAt g 0 cs := fun j v hv => by rw [Nat.zero_add]; exact h.cell j v hv
theorem Row.there {w : World} {g n : Nat} {cs : List Value} (h : Row w g cs) (hn : n = cs.length) : w.there g 0 n := fun j hj => by
  rw [Nat.zero_add, h.cell j _ (List.getElem?_eq_getElem (by omega))]; exact ⟨rfl, h.froz j (by omega)⟩
def sec64 : Array Value := Array.replicate 64 (.int .u8 0)
theorem zeroSec (w : World) : (zeroValue 53).run Tryd.prog w = .ok (.agg sec64) w := by kernel_rfl

set_option maxRecDepth 4000 in
set_option maxHeartbeats 1600000 in
theorem sec_i (t : ByteArray) (w : World) (ht : t.size = 64) :
    Calls Tryd.prog 32 #[.string t] w fun e w' => e = .returned (.agg ((nums t).map (Value.int .u8)).toArray) ∧ Below w.heap.size w w' := by
  have hnl : (nums t).length = 64 := by rw [nums_length, ht]
  have HI64 : Hid ((Tryd.prog.info? 53).map (·.size) = some ((nums t).map (Value.int .u8)).length) := by show _ = _; rw [List.length_map, hnl]; kernel_rfl
  have hlm : ((nums t).map (Value.int .u8)).toArray.size = 64 := by simp [hnl]
  have HT := hid ht
  clear ht
  go_enter Tryd.func32, Tryd.ntmps32
  go_wp2_with (first | (with_reducible refine at_copy _ _ _ rfl ?_; refine wpList_copy_text rfl _ _ _ _ rfl 5 Tryd.underlying28 (fun _ => by kernel_rfl) (w.heap.size + 1) 64 64 rfl t rfl HT.out _ (by exact row_new' _ _ _ _ (by simp)) (by kernel_rfl) ?_; intro wx hrow hgr hsz; have hR := (((row_new w _ _).alloc _).grown hgr (by simp)); have HB := hid ((((Below.refl _ _).alloc (Nat.le_refl _) _).alloc (by simp) _).trans (grown_below hgr (by simp; omega) (fun g hg => by cases hg; omega))); clear hgr hsz) | (with_reducible refine at_load 53 _ rfl ?_; refine wpList_load_mid rfl 53 _ rfl (w.heap.size + 1) 0 rfl ((nums t).map (Value.int .u8)) _ hrow.range Tryd.underlying53 rfl HI64.out ?_) | (with_reducible refine at_store 53 _ _ rfl ?_; refine wpList_store_mid rfl 53 _ _ rfl w.heap.size 0 ((nums t).map (Value.int .u8)).toArray rfl rfl (by rw [hlm]; exact hR.there (by kernel_rfl)) (by rw [hlm]; kernel_rfl) (all_oneCell_toArray (ints_one (nums t))) ?_))
  refine bodyPost_ret (v := .agg ((nums t).map (Value.int .u8)).toArray) (results_cell1 (p := 2) Tryd.results32 _ _ w.heap.size 0 rfl ((nums t).map (Value.int .u8)) _ (World.rangeAt_setCells_same _ _ _ _ (by rw [List.length_map, hnl]; exact hR.there (by kernel_rfl))) Tryd.underlying53 rfl HI64.out) rfl ⟨rfl, ?_⟩
  exact Go.below_setCells (Nat.le_refl _) _ _ _ HB.out
end Go.Proofs.YtnmaknnnmjfhkacDoor
