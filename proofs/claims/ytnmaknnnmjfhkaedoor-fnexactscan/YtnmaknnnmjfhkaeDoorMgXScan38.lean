import Derived.Test.YtnmaknnnmjfhkaeDoorQxScanDrs
import Derived.Laws.ResultCell

set_option maxHeartbeats 16000000
set_option maxRecDepth 8000
namespace Go.Proofs.YtnmaknnnmjfhkaeDoor
open Go.RowKit
set_option linter.unusedVariables false

theorem results_cell1_tmp {P : Program} {fn : Func} {p u : Tmp} {ty : TypeId} (h : fn.results = #[.cell p ty, .tmp u]) (tmps : Array Value) (w : World) (b o : Nat) (hp : tmps.getD p undef = .pointer (some ⟨b, o, none⟩))
    (cs : List Value) (d : TypeDesc) (hc : w.rangeAt b o cs) (hu : P.underlying ty = some d) (hd : d.isRow = true) (hi : (P.info? ty).map (·.size) = some cs.length) : (results fn tmps).run P w = .ok (.tuple #[.agg cs.toArray, tmps.getD u undef]) w := by
  have hl := run_loadVar_mid (P := P) w b o ty cs d hc hu hd hi
  rw [results_cell_tmp h]
  simp [hp, asAddr, hl, Result.andThen]

set_option maxRecDepth 100000 in
set_option maxHeartbeats 16000000 in
theorem rd_plate (g n c m : Nat) (ps : List (List Int)) (w : World) (hp : PR w g ps) (hl : ps.length = n) (hn2 : n ≤ 200) (hm : m < n) :
    Calls Tryd.prog 127 #[.slice (some ⟨g, 0, none⟩) n c, .int .i64 (m : Int)] w fun e w' => e = .returned (.tuple #[.agg ((ps.getD m []).map (Value.int .u8)).toArray, .bool true]) ∧ Below w.heap.size w w' := by
  have hrg : ∀ o, (w.alloc o).rangeAt g (m * 64) ((ps.getD m []).map (Value.int .u8)) := fun o => (hp.below (below_new w o)).range (k := m) (by omega)
  have hxl := getD_len hp.len (k := m) (by omega)
  obtain ⟨x, HX⟩ : ∃ x, Hid (x = ps.getD m []) := ⟨_, hid rfl⟩
  rw [← HX.out] at hrg hxl ⊢
  have hxm : (x.map (Value.int .u8)).toArray.size = 64 := by simp [hxl]
  have HI64 : Hid ((Tryd.prog.info? 98).map (·.size) = some (x.map (Value.int .u8)).length) := by show _ = _; rw [List.length_map, hxl]; kernel_rfl
  have HRG := hid hrg
  have hm0 : ¬ ((m : Int) < 0) := by omega
  have hm1 : ¬ (n ≤ m) := by omega
  clear hrg
  go_enter Tryd.func127, Tryd.ntmps127
  go_wp2_with (first | (with_reducible refine at_load 98 _ rfl ?_; refine wpList_load_mid rfl 98 _ rfl g (m * 64) rfl (x.map (Value.int .u8)) _ (by exact HRG.out _) Tryd.underlying98 rfl HI64.out ?_) | (with_reducible refine at_store 98 _ _ rfl ?_; refine wpList_store_mid rfl 98 _ _ rfl w.heap.size 0 (x.map (Value.int .u8)).toArray rfl rfl (by rw [hxm]; exact (row_new w _ _).there (by kernel_rfl)) (by rw [hxm]; kernel_rfl) (all_oneCell_toArray (ints_one x)) ?_))
  refine bodyPost_ret (v := .tuple #[.agg (x.map (Value.int .u8)).toArray, .bool true]) (results_cell1_tmp (p := 4) (u := 5) Tryd.results127 _ _ w.heap.size 0 rfl (x.map (Value.int .u8)) _ (World.rangeAt_setCells_same _ _ _ _ (by rw [List.length_map, hxl]; exact (row_new w _ _).there (by kernel_rfl))) Tryd.underlying98 rfl HI64.out) rfl ⟨rfl, ?_⟩
  exact Go.below_setCells (Nat.le_refl _) _ _ _ (below_new _ _)
set_option maxRecDepth 100000 in
set_option maxHeartbeats 16000000 in
theorem rdr (a a' : Option Addr) (n c n' c' : Nat) (w : World) :
    Calls Tryd.prog 44 #[.agg #[.slice a n c, .slice a' n' c']] w fun e w' => e = .returned (.iface 126 (.agg #[.slice a' n' c', .iface 69 (.slice a n c)])) ∧ Below w.heap.size w w' := by
  go_enter Tryd.func44, Tryd.ntmps44
  go_wp2
  go_ret
  exact ⟨rfl, below_new _ _⟩
end Go.Proofs.YtnmaknnnmjfhkaeDoor

namespace Go.Proofs.YtnmaknnnmjfhkaeDoor
open Go.RowKit
set_option linter.unusedVariables false
/-- A sector of zeros. -/
def z64 : List Int := List.replicate 64 0
theorem z64_length : z64.length = 64 := by simp [z64]
set_option maxRecDepth 100000 in
set_option maxHeartbeats 16000000 in
theorem rd_plate_no (g n c : Nat) (m : Int) (w : World) (hn2 : n ≤ 200) (hm : ¬ (0 ≤ m ∧ m < (n : Int))) :
    Calls Tryd.prog 127 #[.slice (some ⟨g, 0, none⟩) n c, .int .i64 m] w fun e w' => e = .returned (.tuple #[.agg (z64.map (Value.int .u8)).toArray, .bool false]) ∧ Below w.heap.size w w' := by
  by_cases h0 : m < 0
  · go_enter Tryd.func127, Tryd.ntmps127
    go_wp2_with (with_reducible refine at_store 98 _ _ rfl ?_; refine wpList_store_mid rfl 98 _ _ rfl w.heap.size 0 _ rfl rfl (by exact (row_new w _ _).there (by kernel_rfl)) (by kernel_rfl) (by kernel_rfl) ?_)
    refine bodyPost_ret (results_cell1_tmp (p := 4) (u := 5) Tryd.results127 _ _ w.heap.size 0 rfl _ _ (World.rangeAt_setCells_same _ _ _ _ (by exact (row_new w _ _).there (by kernel_rfl))) Tryd.underlying98 rfl (by kernel_rfl)) rfl ⟨by kernel_rfl, ?_⟩
    exact Go.below_setCells (Nat.le_refl _) _ _ _ (below_new _ _)
  · have h1 : (n : Int) ≤ m := by omega
    go_enter Tryd.func127, Tryd.ntmps127
    go_wp2_with (with_reducible refine at_store 98 _ _ rfl ?_; refine wpList_store_mid rfl 98 _ _ rfl w.heap.size 0 _ rfl rfl (by exact (row_new w _ _).there (by kernel_rfl)) (by kernel_rfl) (by kernel_rfl) ?_)
    refine bodyPost_ret (results_cell1_tmp (p := 4) (u := 5) Tryd.results127 _ _ w.heap.size 0 rfl _ _ (World.rangeAt_setCells_same _ _ _ _ (by exact (row_new w _ _).there (by kernel_rfl))) Tryd.underlying98 rfl (by kernel_rfl)) rfl ⟨by kernel_rfl, ?_⟩
    exact Go.below_setCells (Nat.le_refl _) _ _ _ (below_new _ _)
end Go.Proofs.YtnmaknnnmjfhkaeDoor
