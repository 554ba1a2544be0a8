import Derived.Test.YtnmaknnnmjfhkaeDoorRd
namespace Go.Proofs.YtnmaknnnmjfhkaeDoor
open Go.RowKit
set_option linter.unusedVariables false
/-- A sector of zeros. -/
def z64 : List Int := List.replicate 64 0
theorem z64_length : z64.length = 64 := by simp [z64]
set_option maxRecDepth 100000 in
set_option maxHeartbeats 1000000 in
theorem rd_plate_no (g n c : Nat) (m : Int) (w : World) (hn2 : n ≤ 200) (hm : ¬ (0 ≤ m ∧ m < (n : Int))) :
    Calls Tryd.prog 127 #[.slice (some ⟨g, 0, none⟩) n c, .int .i64 m] w fun e w' => e = .returned (.tuple #[.agg (z64.map (Value.int .u8)).toArray, .bool false]) ∧ Below w.heap.size w w' := by
  by_cases h0 : m < 0
  · go_enter Tryd.func127, Tryd.ntmps127
    go_wp2_with (with_reducible refine at_store 98 _ _ rfl ?_; refine wpList_store_mid rfl 98 _ _ rfl w.heap.size 0 _ rfl rfl (by exact (row_new w _ _).there (by kernel_rfl)) (by kernel_rfl) (by kernel_rfl) ?_)
    refine bodyPost_ret (results_cell1_tmp (p := 4) (u := 5) Tryd.results127 _ _ w.heap.size 0 rfl _ _ (World.rangeAt_setCells_same _ _ _ _ (by exact (row_new w _ _).there (by kernel_rfl))) Tryd.underlying98 rfl (by kernel_rfl)) rfl ⟨by kernel_rfl, ?_⟩
    exact Go.below_setCells (Nat.le_refl _) _ _ _ (below_new _ _)
  · have h1 : (n : Int) ≤ m := by omega
    go_enter Tryd.func127, Tryd.ntmps127
    go_wp2_with (with_reducible refine at_store 98 _ _ rfl ?_; refine wpList_store_mid rfl 98 _ _ rfl w.heap.size 0 _ rfl rfl (by exact (row_new w _ _).there (by kernel_rfl)) (by kernel_rfl) (by kernel_rfl) ?_)
    refine bodyPost_ret (results_cell1_tmp (p := 4) (u := 5) Tryd.results127 _ _ w.heap.size 0 rfl _ _ (World.rangeAt_setCells_same _ _ _ _ (by exact (row_new w _ _).there (by kernel_rfl))) Tryd.underlying98 rfl (by kernel_rfl)) rfl ⟨by kernel_rfl, ?_⟩
    exact Go.below_setCells (Nat.le_refl _) _ _ _ (below_new _ _)
end Go.Proofs.YtnmaknnnmjfhkaeDoor
