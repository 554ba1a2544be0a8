import Derived.Test.YtnmaknnnmjfhkagGreatDoorPrFill
import Derived.Deep.Onto
import Derived.Test.YtnmaknnnmjfhkagGreatDoorPrG45
import Derived.Test.YtnmaknnnmjfhkagGreatDoorPrG44
import Derived.Test.YtnmaknnnmjfhkagGreatDoorPrG43
import Derived.Test.YtnmaknnnmjfhkagGreatDoorPrRbWa
import Derived.Test.YtnmaknnnmjfhkagGreatDoorPrG50
import Derived.Test.YtnmaknnnmjfhkagGreatDoorPrRbWd
import Derived.Test.YtnmaknnnmjfhkagGreatDoorPrVB
import Derived.Laws.BytesArg
import Derived.Laws.IdiomStrings
import Derived.Test.YtnmaknnnmjfhkagGreatDoorProg
set_option maxHeartbeats 16000000
set_option maxRecDepth 8000
namespace Go.Proofs.YtnmaknnnmjfhkagGreatDoor
open Go.RowKit
theorem at_load {P : Program} {ops : Array Oper} {rest : List Oper} {op : Oper} {a : Act} {w : World} {Q : Exit → Act → World → Prop} (ty : TypeId) (x : Operand) (_ho : op.op = .load ty x) (h : wpList P ops Q (op :: rest) a w) : wpList P ops Q (op :: rest) a w := h
theorem at_store {P : Program} {ops : Array Oper} {rest : List Oper} {op : Oper} {a : Act} {w : World} {Q : Exit → Act → World → Prop} (ty : TypeId) (x y : Operand) (_ho : op.op = .store ty x y) (h : wpList P ops Q (op :: rest) a w) : wpList P ops Q (op :: rest) a w := h
end Go.Proofs.YtnmaknnnmjfhkagGreatDoor

namespace Go.Proofs.YtnmaknnnmjfhkagGreatDoor
open Go.RowKit
set_option maxRecDepth 4000
set_option linter.unusedVariables false
def Plt (w : World) (a : Option Addr) (ps : List (List Int)) : Prop :=
  ps = [] ∨ ∃ b o, a = some ⟨b, o, none⟩ ∧ b < w.heap.size ∧ ∀ i, i < ps.length → w.rangeAt b (o + i * 64) ((ps.getD i []).map (Value.int .u8))
def Hld (w : World) (a : Option Addr) (hs : List (Int × List Int)) : Prop :=
  hs = [] ∨ ∃ b o, a = some ⟨b, o, none⟩ ∧ b < w.heap.size ∧ ∀ i, i < hs.length → w.rangeAt b (o + i * 65) (.int .i64 (hs.getD i (0, [])).1 :: (hs.getD i (0, [])).2.map (Value.int .u8))
theorem range_below {w w' : World} {b o : Nat} {cs : List Value} (h : w.rangeAt b o cs) (hb : Below w.heap.size w w') (hlt : b < w.heap.size) : w'.rangeAt b o cs := fun j v hv => (hb.cell (p := ⟨b, o + j, none⟩) hlt).trans (h j v hv)
theorem Plt.below {w w' : World} {a : Option Addr} {ps : List (List Int)} (h : Plt w a ps) (hb : Below w.heap.size w w') : Plt w' a ps := by
  rcases h with h | ⟨b, o, h1, h2, h3⟩
  · exact .inl h
  · exact .inr ⟨b, o, h1, Nat.lt_of_lt_of_le h2 hb.size, fun i hi => range_below (h3 i hi) hb h2⟩
theorem Hld.below {w w' : World} {a : Option Addr} {hs : List (Int × List Int)} (h : Hld w a hs) (hb : Below w.heap.size w w') : Hld w' a hs := by
  rcases h with h | ⟨b, o, h1, h2, h3⟩
  · exact .inl h
  · exact .inr ⟨b, o, h1, Nat.lt_of_lt_of_le h2 hb.size, fun i hi => range_below (h3 i hi) hb h2⟩
theorem Plt.at {w : World} {a : Option Addr} {ps : List (List Int)} (h : Plt w a ps) {k : Nat} (hk : k < ps.length) : ∃ b o x, a = some ⟨b, o, none⟩ ∧ b < w.heap.size ∧ w.rangeAt b (o + k * 64) (x.map (Value.int .u8)) ∧ Hid (x = ps.getD k []) := by
  rcases h with h | ⟨b, o, h1, h2, h3⟩
  · subst h; simp at hk
  · exact ⟨b, o, _, h1, h2, h3 k hk, hid rfl⟩
theorem Hld.at {w : World} {a : Option Addr} {hs : List (Int × List Int)} (h : Hld w a hs) {k : Nat} (hk : k < hs.length) : ∃ b o n x, a = some ⟨b, o, none⟩ ∧ b < w.heap.size ∧ w.rangeAt b (o + k * 65) (.int .i64 n :: x.map (Value.int .u8)) ∧ Hid ((n, x) = hs.getD k (0, [])) := by
  rcases h with h | ⟨b, o, h1, h2, h3⟩
  · subst h; simp at hk
  · exact ⟨b, o, _, _, h1, h2, h3 k hk, hid rfl⟩
theorem held_one (n : Int) (xs : List Int) : ∀ v ∈ Value.int .i64 n :: xs.map (Value.int .u8), v.oneCell' = true := fun v hv => by
  rcases List.mem_cons.1 hv with rfl | hv
  · rfl
  · exact ints_one xs v hv
theorem there_any (w : World) (A : Array Value) (t : TypeId) : (w.alloc (.cells A t)).there w.heap.size 0 A.size := fun j hj => by
  rw [Nat.zero_add, World.cell?_alloc_at _ _ _ _ rfl, frozen?_alloc_cells]
  exact ⟨by simp [hj], frozen_past _ _ _ (Nat.le_refl _)⟩
theorem wpList_store_cells {P : Program} {ops : Array Oper} {rest : List Oper} {op : Oper} {a : Act} {w : World} {Q : Exit → Act → World → Prop} (hgd : op.guard = none) (ty : TypeId) (x y : Operand) (ho : op.op = .store ty x y)
    (cs : List Value) (h1 : ∀ v ∈ cs, v.oneCell' = true) (hx : a.eval x = .pointer (some ⟨w.heap.size, 0, none⟩)) (hy : a.eval y = .agg cs.toArray) (A : Array Value) (t : TypeId) (hA : A.size = cs.length)
    (hi : (P.info? ty).map (·.size) = some cs.length)
    (h : ∀ wx, Row wx w.heap.size cs → Below w.heap.size w wx → wx.heap.size = w.heap.size + 1 → wpList P ops Q rest (a.put op.dst undef) wx) : wpList P ops Q (op :: rest) a (w.alloc (.cells A t)) := by
  have hth := there_any w A t
  rw [hA] at hth
  have hz : cs.toArray.size = cs.length := by simp
  refine wpList_store_mid hgd ty x y ho w.heap.size 0 _ hx hy (by rw [hz]; exact hth) (by rw [hz]; exact hi) (all_oneCell_toArray h1) ?_
  have hr := World.rangeAt_setCells_same (w.alloc (.cells A t)) w.heap.size 0 cs hth
  refine h _ ⟨by rw [setCells_size]; simp, fun i v hv => ?_, fun i hi => ?_⟩ (Go.below_setCells (Nat.le_refl _) _ _ _ ((Below.refl _ _).alloc (Nat.le_refl _) _)) (by rw [setCells_size]; simp)
  · have := hr i v hv
    simpa using this
  · rw [World.frozen?_setCells, frozen?_alloc_cells]; exact frozen_past _ _ _ (Nat.le_refl _)
theorem Row.text {P : Program} {w : World} {g : Nat} {cs : List Value} (h : Row w g cs) (xs : List Int) (o n cap : Nat) (hx : xs.length = n) (hc : ∀ i, i < n → cs[o + i]? = some (.int .u8 (xs.getD i 0))) (src e dst : TypeId) (hs : P.underlying src = some (.slice e)) (he : P.underlying e = some (.int .u8)) (hd : P.underlying dst = some .string) :
    (convert src dst (.slice (some ⟨g, o, none⟩) n cap)).run P w = .ok (.string (strOfNums xs)) w :=
  run_convert_bytes_arg (P := P) w src e hs he g o n cap xs hx (fun i hi => h.cell _ _ (hc i hi)) dst hd
theorem Dsk.far {W w w1 : World} {R D base : Nat} {e e' : TypeId} {v v' : Value} {ss : List ByteArray} {ws : List (Int × ByteArray)} (h : Dsk W w R D base e e' v v' ss ws) (hg : w.grownBy w1 v.ownBlock) (b i j : Nat) (hb : b < base) (hn : b ≠ D) (u : Value) : (w1.setCell ⟨D, j, none⟩ u).cell? ⟨b, i, none⟩ = w.cell? ⟨b, i, none⟩ := by
  have lb : b < w.heap.size := Nat.lt_of_lt_of_le hb h.sz
  have nb : some b ≠ v.ownBlock := fun he => by have := (h.own.lt b he.symm).1; omega
  rw [World.cell?_setCell_other (w := w1) (h := show (⟨D, j, none⟩ : Addr) ≠ ⟨b, i, none⟩ from fun he => hn (by injection he with h1; exact h1.symm))]
  exact hg.cell_far ⟨b, i, none⟩ lb nb
def secs (ps : List (List Int)) : List ByteArray := ps.map strOfNums
def held (hs : List (Int × List Int)) : List (Int × ByteArray) := hs.map fun x => (x.1, strOfNums x.2)
def heldZ : Array Value := #[.int .i64 0] ++ Array.replicate 64 (.int .u8 0)
theorem zeroHeld (w : World) : (zeroValue 270).run Tryz.prog w = .ok (.agg heldZ) w := by kernel_rfl
end Go.Proofs.YtnmaknnnmjfhkagGreatDoor

namespace Go.Proofs.YtnmaknnnmjfhkagGreatDoor
open Go.RowKit
set_option maxRecDepth 4000
set_option linter.unusedVariables false
def secZ : Value := .agg (Array.replicate 64 (.int .u8 0))
theorem infoSec : (Tryz.prog.info? 267).map (fun i => (i.zero, i.size, i.bytes)) = some (some secZ, 64, 64) := by kernel_rfl
theorem made_secs (n : Nat) : (madeCells secZ.cells (n * 64)).toList = List.replicate (n * 64) (.int .u8 0) := by
  unfold madeCells
  rw [Array.toList_map, Array.toList_range, List.eq_replicate_iff]
  refine ⟨by simp, fun b hb => ?_⟩
  obtain ⟨i, _, rfl⟩ := List.mem_map.1 hb
  have e1 : secZ.cells = Array.replicate 64 (.int .u8 0) := rfl
  have e2 : i % (Array.replicate 64 (Value.int .u8 0)).size < 64 := by rw [Array.size_replicate]; omega
  rw [e1]
  rw [getElem!_pos _ _ (by rw [Array.size_replicate] at e2 ⊢; exact e2)]
  simp
end Go.Proofs.YtnmaknnnmjfhkagGreatDoor

namespace Go.Proofs.YtnmaknnnmjfhkagGreatDoor
open Go.RowKit
set_option linter.unusedVariables false
theorem row_new' (w : World) (A : Array Value) (t : TypeId) (g : Nat) (hg : g = w.heap.size) : Row (w.alloc (.cells A t)) g A.toList := by subst hg; exact row_new w A t
theorem at_copy {P : Program} {ops : Array Oper} {rest : List Oper} {op : Oper} {a : Act} {w : World} {Q : Exit → Act → World → Prop} (d x : Operand) (ts : Array TypeId) (_ho : op.op = .call { callee := .builtin .copy, args := #[d, x], argTypes := ts }) (h : wpList P ops Q (op :: rest) a w) : wpList P ops Q (op :: rest) a w := h
theorem wpList_copy_text {P : Program} {ops : Array Oper} {rest : List Oper} {o : Oper} {a : Act} {w : World} {Q : Exit → Act → World → Prop} (hgd : o.guard = none) (d x : Operand) (dT sT : TypeId)
    (hop : o.op = .call { callee := .builtin .copy, args := #[d, x], argTypes := #[dT, sT] }) (elem : TypeId) (hu : P.underlying dT = some (.slice elem)) (hz : ∀ w, (Go.sizeOf elem).run P w = .ok 1 w)
    (g n cap : Nat) (hd : a.eval d = .slice (some ⟨g, 0, none⟩) n cap) (t : ByteArray) (hx : a.eval x = .string t) (hn : t.size = n) (cs : List Value) (hrow : Row w g cs) (hcs : cs.length = n)
    (h : ∀ wx, Row wx g ((nums t).map (Value.int .u8)) → w.grownBy wx (some g) → wx.heap.size = w.heap.size → wpList P ops Q rest (a.put o.dst (goInt t.size)) wx) : wpList P ops Q (o :: rest) a w := by
  have hc : ∀ j, j < t.size → (w.cell? ⟨g, 0 + j, none⟩).isSome = true := fun j hj => by
    rw [Nat.zero_add, hrow.cell j _ (List.getElem?_eq_getElem (by omega))]; rfl
  have hf : ∀ j, j < t.size → w.frozen? ⟨g, 0 + j, none⟩ = false := fun j hj => by rw [Nat.zero_add]; exact hrow.froz j (by omega)
  have hrun := run_copy_string (P := P) w dT sT o.type elem g 0 n cap t hu hz (by omega) hc hf
  have hW := wrote_setCells w g 0 t hc
  refine wpList_plain hgd fun K hK => ?_
  unfold Oper.wp
  simp [execOp, hop, resolve, invoke, builtin, hd, hx, hrun, Result.andThen]
  refine hK _ _ (h _ ⟨by rw [hW.size]; exact hrow.lt, fun i v hv => ?_, fun i hi => ?_⟩ ⟨hW.os, hW.tape, hW.output, Nat.le_of_eq hW.size.symm, fun k _ hk => hW.others k (fun e => hk (by rw [e]))⟩ hW.size)
  · obtain ⟨hj, e⟩ := List.getElem?_eq_some_iff.1 hv
    simp at hj
    have := hW.inside i (by simpa [nums_length] using hj)
    rw [Nat.zero_add] at this
    rw [this]
    simp at e
    subst e
    simp [List.getD, List.getElem?_eq_getElem hj]
  · rw [hW.frozen]; exact hrow.froz i (by simp [nums_length] at hi; omega)
theorem Row.range {w : World} {g : Nat} {cs : List Value} (h : Row w g cs) : w.rangeAt g 0 cs := fun j v hv => by rw [Nat.zero_add]; exact h.cell j v hv
theorem Row.there {w : World} {g n : Nat} {cs : List Value} (h : Row w g cs) (hn : n = cs.length) : w.there g 0 n := fun j hj => by
  rw [Nat.zero_add, h.cell j _ (List.getElem?_eq_getElem (by omega))]; exact ⟨rfl, h.froz j (by omega)⟩
def sec64 : Array Value := Array.replicate 64 (.int .u8 0)
set_option maxRecDepth 4000 in
set_option maxHeartbeats 16000000 in
theorem sec_i (t : ByteArray) (w : World) (ht : t.size = 64) :
    Calls Tryz.prog 216 #[.string t] w fun e w' => e = .returned (.agg ((nums t).map (Value.int .u8)).toArray) ∧ Below w.heap.size w w' := by
  have hnl : (nums t).length = 64 := by rw [nums_length, ht]
  have HI64 : Hid ((Tryz.prog.info? 267).map (·.size) = some ((nums t).map (Value.int .u8)).length) := by show _ = _; rw [List.length_map, hnl]; kernel_rfl
  have hlm : ((nums t).map (Value.int .u8)).toArray.size = 64 := by simp [hnl]
  have HT := hid ht
  clear ht
  go_enter Tryz.func216, Tryz.ntmps216
  go_wp2_with (first | (with_reducible refine at_copy _ _ _ rfl ?_; refine wpList_copy_text rfl _ _ _ _ rfl 5 Tryz.underlying47 (fun _ => by kernel_rfl) (w.heap.size + 1) 64 64 rfl t rfl HT.out _ (by exact row_new' _ _ _ _ (by simp)) (by kernel_rfl) ?_; intro wx hrow hgr hsz; have hR := (((row_new w _ _).alloc _).grown hgr (by simp)); have HB := hid ((((Below.refl _ _).alloc (Nat.le_refl _) _).alloc (by simp) _).trans (grown_below hgr (by simp; omega) (fun g hg => by cases hg; omega))); clear hgr hsz) | (with_reducible refine at_load 267 _ rfl ?_; refine wpList_load_mid rfl 267 _ rfl (w.heap.size + 1) 0 rfl ((nums t).map (Value.int .u8)) _ hrow.range Tryz.underlying267 rfl HI64.out ?_) | (with_reducible refine at_store 267 _ _ rfl ?_; refine wpList_store_mid rfl 267 _ _ rfl w.heap.size 0 ((nums t).map (Value.int .u8)).toArray rfl rfl (by rw [hlm]; exact hR.there (by kernel_rfl)) (by rw [hlm]; kernel_rfl) (all_oneCell_toArray (ints_one (nums t))) ?_))
  refine bodyPost_ret (v := .agg ((nums t).map (Value.int .u8)).toArray) (results_cell1 (p := 2) Tryz.results216 _ _ w.heap.size 0 rfl ((nums t).map (Value.int .u8)) _ (World.rangeAt_setCells_same _ _ _ _ (by rw [List.length_map, hnl]; exact hR.there (by kernel_rfl))) Tryz.underlying267 rfl HI64.out) rfl ⟨rfl, ?_⟩
  exact Go.below_setCells (Nat.le_refl _) _ _ _ HB.out
end Go.Proofs.YtnmaknnnmjfhkagGreatDoor

namespace Go.Proofs.YtnmaknnnmjfhkagGreatDoor
open Go.RowKit
set_option maxRecDepth 4000
set_option linter.unusedVariables false
set_option linter.unusedSimpArgs false
theorem pc_size {r k m : ByteArray} (h : pc r = some (k, m)) : m.size ≤ r.size := by
  have := congrArg List.length (pc_some h).1
  simp [nums_length] at this
  omega
theorem change_i (r : ByteArray) (w : World) (hs : r.size ≤ 1048576) (h0 : 0 < r.size) : Calls Tryz.prog 222 #[.string r] w fun e w' => chgPost (stpV r) e ∧ Below w.heap.size w w' := by
  unfold stpV
  by_cases hb : 1 < b0 r
  · rw [if_pos hb]; exact change_bad r w hs h0 hb
  · rw [if_neg hb]
    unfold stp
    cases hp : pc (r.extract 1 r.size) with
    | none =>
      rcases Nat.eq_zero_or_pos (b0 r) with h1 | h1
      · exact change_sn r w hs h0 h1 hp
      · exact change_gn r w hs h0 (by omega) hp
    | some p =>
      obtain ⟨k, m⟩ := p
      have hmz : m.size ≤ 1048576 := by have := pc_size hp; simp only [ByteArray.size_extract] at this; omega
      rcases Nat.eq_zero_or_pos (b0 r) with h1 | h1
      · simp only
        rw [if_neg (by omega)]
        cases hq : pc m with
        | none => exact change_ssn r w hs h0 h1 k m hp hmz hq
        | some q =>
          obtain ⟨v, m'⟩ := q
          exact rbchange_s r w hs h0 h1 k m hp hmz v m' hq
      · simp only
        rw [if_pos (by omega)]
        exact change_g r w hs h0 (by omega) k m hp
end Go.Proofs.YtnmaknnnmjfhkagGreatDoor

namespace Go.Proofs.YtnmaknnnmjfhkagGreatDoor
open Go.RowKit
set_option maxRecDepth 4000
set_option linter.unusedVariables false
set_option linter.unusedSimpArgs false
theorem info_ch' : (Tryz.prog.info? 69).map (fun i => (i.zero, i.size, i.bytes)) = some (some (.agg #[.string ByteArray.empty, .string ByteArray.empty, .bool false]), 3, 40) := by kernel_rfl
theorem info_partsC {P : Program} {e : TypeId} {z : Value} {size bytes : Nat} (h : (P.info? e).map (fun i => (i.zero, i.size, i.bytes)) = some (some z, size, bytes)) : ∃ i, P.info? e = some i ∧ i.zero = some z ∧ i.size = size ∧ i.bytes = bytes := by
  obtain ⟨i, hi, hh⟩ := Option.map_eq_some_iff.1 h
  simp only [Prod.mk.injEq] at hh
  exact ⟨i, hi, hh⟩
theorem below_grownC {W w w1 : World} {e : TypeId} {size : Nat} {v : Value} {n B : Nat} {xs : List Value} (hb : Below B W w) (own : w.ownsRow B e size v n xs) (hg : w.grownBy w1 v.ownBlock) (hB : B ≤ w.heap.size) : Below B W w1 :=
  hb.trans ⟨hg.os, hg.tape, hg.output, hg.size, fun k hk => hg.block k (by omega) (fun he => by have := (own.lt k he.symm).1; omega)⟩
theorem stp_size {r r1 : ByteArray} {c : Ch} (hr : 0 < r.size) (h : stp r = some (c, r1)) : r1.size < r.size ∧ c.1.size ≤ 255 ∧ c.2.1.size ≤ 255 := by
  obtain ⟨k1, k2, t, k3, k4⟩ := stp_some hr h
  refine ⟨?_, k1, k2⟩
  have e1 := congrArg List.length k3
  have e2 := congrArg List.length k4
  rw [nums_length] at e2
  rw [List.length_append, nums_length] at e1
  have e3 : 2 ≤ (chN c).length := by unfold chN; split <;> simp <;> omega
  simp only [List.length_cons] at e1 e2
  omega
def RbPost (w w' : World) (e : Ending) (res : Option (List Ch)) : Prop := ∃ a c, e = .returned (.tuple #[.slice a (res.getD []).length c, .bool res.isSome]) ∧ OwnS w' a (chcells (res.getD [])) ∧ (∀ g, blk a (res.getD []).length = some g → w.heap.size ≤ g) ∧ Below w.heap.size w w'
theorem rbPost_none {w w' : World} {v : Value} {a : Option Addr} {c : Nat} (hv : v = .tuple #[.slice a 0 c, .bool false]) (hb : Below w.heap.size w w') : RbPost w w' (.returned v) none := ⟨a, c, by rw [hv]; rfl, .inl rfl, fun g h => (by cases h), hb⟩
theorem rbPost_some {w w' : World} {v y : Value} {o : List Ch} {e : TypeId} (h : w'.ownsRow w.heap.size e 3 y o.length (chcells o)) (hv : v = .tuple #[y, .bool true]) (hb : Below w.heap.size w w') : RbPost w w' (.returned v) (some o) := by
  rcases owns_forms h with ⟨h1, h2⟩ | ⟨g, cap, h1, h2, _, h3⟩
  · have : o = [] := List.eq_nil_of_length_eq_zero h2
    subst this
    exact ⟨none, 0, by rw [hv, h1]; rfl, .inl rfl, fun g h => (by cases h), hb⟩
  · refine ⟨_, cap, by rw [hv, h1]; rfl, .inr ⟨g, rfl, h3⟩, fun g' hg' => ?_, hb⟩
    simp only [Option.getD_some] at hg'
    by_cases h0 : o.length = 0
    · rw [h0] at hg'; cases hg'
    · rw [blk_pos g 0 _ h0] at hg'; cases hg'; exact h2
theorem owns_chs {w : World} {B : Nat} {e : TypeId} {y : Value} {o : List Ch} (h : w.ownsRow B e 3 y o.length (chcells o)) : ∃ a c, y = .slice a o.length c ∧ Chs w a o := by
  rcases owns_forms h with ⟨h1, h2⟩ | ⟨g, cap, h1, h2, _, h3⟩
  · have : o = [] := List.eq_nil_of_length_eq_zero h2
    subst this
    exact ⟨none, 0, h1, .inl rfl⟩
  · exact ⟨_, cap, h1, h3.chs⟩
theorem chcells_snoc (o : List Ch) (c : Ch) : chcells (o ++ [c]) = chcells o ++ [.string c.1, .string c.2.1, .bool c.2.2] := by rw [chcells_append]; rfl
theorem news2 (w : World) (A : Obj) (cs : Array Value) (t : TypeId) : ∀ j u, cs.toList[j]? = some u → ((w.alloc A).alloc (.cells cs t)).cell? ((⟨w.heap.size + 1, 0, none⟩ : Addr).add j) = some u := by
  have h := heap_alloc_new (w.alloc A) (.cells cs t)
  rw [World.size_alloc] at h
  exact World.news_of_block h
theorem oneC (k v : ByteArray) (g : Bool) : ∀ u ∈ [Value.string k, .string v, .bool g], u.oneCell' = true := by
  intro u hu
  simp only [List.mem_cons, List.not_mem_nil, or_false] at hu
  rcases hu with rfl | rfl | rfl <;> rfl
set_option maxHeartbeats 16000000 in
theorem read_i (s : ByteArray) (w : World) (hs : s.size ≤ 1048576) : Calls Tryz.prog 158 #[.string s] w fun e w' => RbPost w w' e (resI s) := by
  obtain ⟨R, HR⟩ : ∃ R, Hid (R = resI s) := ⟨_, hid rfl⟩
  rw [← HR.out]
  obtain ⟨i0, hi0, hz0, hz1, hz2⟩ := info_partsC info_ch'
  have HI := hid (And.intro hi0 (And.intro hz0 (And.intro hz1 hz2)))
  clear hi0 hz0 hz1 hz2
  go_enter Tryz.func158, Tryz.ntmps158
  go_wp2_with fail
  go_loopw [0, 4] (fun x y wr => ∃ (j : Nat) (o : List Ch) (r : ByteArray), x = .string r ∧ j + o.length = 21 ∧ r.size ≤ 1048576 ∧ Hid (runI j r o = runI 21 s []) ∧ Hid (∀ z ∈ o, z.1.size ≤ 1048576 ∧ z.2.1.size ≤ 1048576) ∧ wr.ownsRow w.heap.size 69 3 y o.length (chcells o) ∧ Below w.heap.size w wr) (fun x _ _ => match x with | .string r => r.size | _ => 0)
  case atStart => exact ⟨21, [], s, rfl, rfl, hs, rfl, fun z hz => (by simp at hz), World.ownsRow_nil _ _ _ _, Below.refl _ _⟩
  case round =>
    obtain ⟨j, o, r, rfl, hj, hrz, HRN, HOZ, hown, hbel⟩ := hrel
    obtain ⟨ya, yc, rfl, hchs⟩ := owns_chs hown
    have HO := hid hown
    have HB := hid hbel
    have hsz := hbel.size
    have HC := hid hchs
    clear hown hbel hchs
    have fin : ∀ (b : Bool), Hid (runI j r o = some (o, r)) → Hid (R = if batchOk o = true then some o else none) := fun b hh => by
      show _ = _
      have := HRN.out
      rw [hh.out] at this
      rw [HR.out]
      unfold resI
      rw [← this]
    by_cases h0 : r.size = 0
    · have he : r.toList.isEmpty = true := by rw [isEmpty_size]; exact decide_eq_true h0
      have HF := fin true (by show _ = _; cases j <;> simp [runI, h0])
      clear fin
      cases hok : batchOk o with
      | true =>
        rw [hok, if_pos rfl] at HF
        go_wp2_with (go_at_call 92; refine (vbatch_i _ o _ _ HC.out (by omega) HOZ.out).mono ?_; rw [hok]; rintro e w2 ⟨rfl, hb2⟩)
        go_ret2
        rw [HF.out]
        exact rbPost_some (owns_below HO.out hb2) rfl (HB.out.trans (hb2.mono hsz))
      | false =>
        rw [hok, if_neg (by simp)] at HF
        go_wp2_with (go_at_call 92; refine (vbatch_i _ o _ _ HC.out (by omega) HOZ.out).mono ?_; rw [hok]; rintro e w2 ⟨rfl, hb2⟩)
        go_ret2
        rw [HF.out]
        exact rbPost_none rfl (by first | exact HB.out.trans (hb2.mono hsz) | exact (HB.out.trans (hb2.mono hsz)).alloc (by have := hb2.size; omega) _)
    · have he : r.toList.isEmpty = false := by rw [isEmpty_size]; exact decide_eq_false h0
      by_cases hl : (o.length : Int) ≤ 20
      · obtain ⟨j', rfl⟩ : ∃ j', j = j' + 1 := ⟨j - 1, by omega⟩
        have HRN2 := HRN.out
        rw [runI, if_neg h0] at HRN2
        have HPC := hid (change_i r · hrz (by omega))
        clear fin
        by_cases hbad : 1 < b0 r
        · have hst : stpV r = none := by unfold stpV; exact if_pos hbad
          rw [if_pos hbad] at HRN2
          have HF : Hid (R = none) := by show _ = _; rw [HR.out]; unfold resI; rw [← HRN2]
          rw [hst] at HPC
          clear hbad hst
          go_wp2_with (go_at_call 222; refine (HPC.out _).mono ?_; rintro e w2 ⟨⟨a1, a2, a3, a4, rfl⟩, hb2⟩)
          go_ret2
          rw [HF.out]
          exact rbPost_none rfl (by first | exact HB.out.trans (hb2.mono hsz) | exact (HB.out.trans (hb2.mono hsz)).alloc (by have := hb2.size; omega) _)
        · rw [if_neg hbad] at HRN2
          have hst : stpV r = stp r := by unfold stpV; exact if_neg hbad
          rw [hst] at HPC
          clear hbad hst
          cases hq : stp r with
          | none =>
            rw [hq] at HRN2 HPC
            have HF : Hid (R = none) := by show _ = _; rw [HR.out]; unfold resI; rw [← HRN2]
            clear hq
            go_wp2_with (go_at_call 222; refine (HPC.out _).mono ?_; rintro e w2 ⟨⟨a1, a2, a3, a4, rfl⟩, hb2⟩)
            go_ret2
            rw [HF.out]
            exact rbPost_none rfl (by first | exact HB.out.trans (hb2.mono hsz) | exact (HB.out.trans (hb2.mono hsz)).alloc (by have := hb2.size; omega) _)
          | some p =>
            obtain ⟨⟨ck, cv, cg⟩, r1⟩ := p
            obtain ⟨q1, q2, q3⟩ := stp_size (by omega) hq
            rw [hq] at HRN2 HPC
            have HR2 : Hid (runI j' r1 (o ++ [(ck, cv, cg)]) = runI 21 s []) := HRN2
            clear hq HRN2 HRN
            simp only at q2 q3
            go_wp2_with (first | (go_at_call 222; refine (HPC.out _).mono ?_; rintro e w2 ⟨he2, hb2⟩; simp only [chgPost] at he2; subst he2; have hs2 := hb2.size; have HO5 := hid (((owns_below HO.out hb2).alloc (.cells #[.string ck, .string cv, .bool cg] 69)).alloc (.cells #[.string ck, .string cv, .bool cg] 69)); have HB5 := hid (((HB.out.trans (hb2.mono hsz)).alloc (by omega) (.cells #[.string ck, .string cv, .bool cg] 69)).alloc (by simp; omega) (.cells #[.string ck, .string cv, .bool cg] 69)); clear hb2) | (at_builtin; refine wpList_append_lies _ rfl _ _ 54 rfl w.heap.size 69 i0 (.agg #[.string ByteArray.empty, .string ByteArray.empty, .bool false]) 3 40 Tryz.underlying54 HI.out.1 HI.out.2.1 HI.out.2.2.1 HI.out.2.2.2 rfl (by omega) _ o.length _ rfl HO5.out ⟨w2.heap.size + 1, 0, none⟩ 1 1 [.string ck, .string cv, .bool cg] rfl rfl (news2 w2 _ _ _) (oneC _ _ _) (by omega) (by unfold maxLen; omega) (by omega) (by simp; omega) (w2.heap.size + 1 + 1) (by simp) ?_; intro g cap w7 hown7 hgrow7 hat7 hlt7; have HO7 := hid hown7; have HB7 := hid (below_grownC HB5.out HO5.out hgrow7 (by simp; omega)); clear hown7 hgrow7 hat7))
            refine ⟨⟨j', o ++ [(ck, cv, cg)], r1, rfl, by simp; omega, by omega, HR2.out, fun z hz => ?_, ?_, HB7.out⟩, by simp only; omega⟩
            · rcases List.mem_append.1 hz with hz | hz
              · exact HOZ.out z hz
              · simp at hz; subst hz; exact ⟨by simp only; omega, by simp only; omega⟩
            · rw [chcells_snoc, List.length_append]; exact HO7.out
      · have hj0 : j = 0 := by omega
        subst hj0
        have HF := fin true rfl
        clear fin
        have hok : batchOk o = false := batchOk_no1 (by omega)
        rw [hok, if_neg (by simp)] at HF
        go_wp2_with (go_at_call 92; refine (vbatch_i _ o _ _ HC.out (by omega) HOZ.out).mono ?_; rw [hok]; rintro e w2 ⟨rfl, hb2⟩)
        go_ret2
        rw [HF.out]
        exact rbPost_none rfl (HB.out.trans (hb2.mono hsz))
end Go.Proofs.YtnmaknnnmjfhkagGreatDoor

namespace Go.Proofs.YtnmaknnnmjfhkagGreatDoor
open Go.RowKit
set_option maxRecDepth 4000
set_option linter.unusedVariables false
set_option linter.unusedSimpArgs false
theorem heap_new (w : World) (o : Obj) : (w.alloc o).heap[w.heap.size]? = some o := by
  show (w.heap.push o)[w.heap.size]? = some o
  simp
theorem frozen_new (w : World) (C : Array Value) (e : TypeId) (n i : Nat) (h : i < n) : (w.alloc (.cells C e (n, n + 1))).frozen? ⟨w.heap.size, i, none⟩ = false := by
  simp only [World.frozen?, heap_new]
  simp
  omega
theorem cell_newf (w : World) (C : Array Value) (e : TypeId) (fr : Nat × Nat) (i : Nat) : (w.alloc (.cells C e fr)).cell? ⟨w.heap.size, i, none⟩ = C[i]? := by
  simp only [World.cell?, heap_new]
  simp
theorem conv_bytes (w : World) (p : ByteArray) : ∃ cap wB, (convert 9 47 (.string p)).run Tryz.prog w = .ok (.slice (some ⟨w.heap.size, 0, none⟩) p.size cap) wB ∧ Below w.heap.size w wB ∧ wB.heap.size = w.heap.size + 1 ∧ Fm wB w.heap.size (nums p) ∧ p.size ≤ cap := by
  refine ⟨_, _, run_bytes_of_string w _ _ 5 p Tryz.underlying9 Tryz.underlying47 Tryz.underlying5, ((Below.refl _ _).drew).alloc (Nat.le_refl _) _, by simp, ⟨fun i hi => ?_, fun i hi => ?_⟩, grownCap_ge _ _ _ _⟩
  · rw [nums_length] at hi
    refine (cell_newf w.drew _ _ _ i).trans ?_
    rw [bytesRow_at p _ i hi]
    have hl : i < p.data.toList.length := hi
    simp only [List.getD_eq_getElem?_getD, nums, List.getElem?_map, List.getElem?_eq_getElem hl]
    rfl
  · rw [nums_length] at hi
    exact frozen_new w.drew _ _ _ i (by unfold bytesRow; simp; omega)
end Go.Proofs.YtnmaknnnmjfhkagGreatDoor
