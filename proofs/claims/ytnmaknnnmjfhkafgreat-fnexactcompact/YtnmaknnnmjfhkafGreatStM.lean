import Derived.Test.YtnmaknnnmjfhkafGreatStV
import Derived.Test.YtnmaknnnmjfhkafGreatMkQ
namespace Go.Proofs.YtnmaknnnmjfhkafGreat
open Go.RowKit
set_option linter.unusedVariables false
set_option linter.unusedSimpArgs false
set_option maxRecDepth 8000

set_option maxHeartbeats 1000000 in
theorem mark_store (W S L T H F R U O : Int) (a : Option Addr) (rs : List (ByteArray × ByteArray)) (c k : Nat) (w : World) (h : OwnS w a (prcells rs)) (hk : 0 < k) (hl : k + 2 * rs.length ≤ 100000000) :
    Calls Tryz.prog 11 #[storeV W S L T H F R U O a rs.length c, .int .i64 (k : Int)] w fun e w' => e = .returned (.int .i64 ((k + 2 * rs.length : Nat) : Int)) ∧ w.grownBy w' (blk a rs.length) ∧ OwnS w' a (prcells (prmarks k rs.length)) := by
  have hb0 : ∀ o, Below w.heap.size w (w.alloc o) := fun o => (Below.refl _ _).alloc (Nat.le_refl _) _
  have HMS := hid (fun w' h' => mark_state a rs c k w' h' hk hl)
  obtain ⟨m, HM⟩ : ∃ m, Hid (m = k + 2 * rs.length) := ⟨_, hid rfl⟩
  rw [← HM.out] at HMS ⊢
  unfold storeV
  go_enter Tryz.func11, Tryz.ntmps11
  go_wp2_with (go_at_call 31; refine (HMS.out _ (h.below (hb0 _))).mono ?_; rintro e w1 ⟨rfl, hg1, ho1⟩; have HG := hid (grown_trans (grown_of_below (blk a rs.length) (hb0 _)) hg1); have HO := hid ho1; clear hg1 ho1)
  go_ret
  exact ⟨rfl, HG.out, HO.out⟩

set_option maxHeartbeats 1000000 in
theorem held_store (W S L T H F R U O : Int) (a : Option Addr) (n c k : Nat) (w : World) (h : OwnS w a (prcells (prmarks k n))) (hk : 0 < k) (hl : k + 2 * n ≤ 100000000) :
    Calls Tryz.prog 33 #[storeV W S L T H F R U O a n c, .int .i64 (k : Int)] w fun e w' => e = .returned (.int .i64 ((k + 2 * n : Nat) : Int)) ∧ Below w.heap.size w w' := by
  have hb0 : ∀ o, Below w.heap.size w (w.alloc o) := fun o => (Below.refl _ _).alloc (Nat.le_refl _) _
  have HMS := hid (fun w' h' => held_state a n c k w' h' hk hl)
  obtain ⟨m, HM⟩ : ∃ m, Hid (m = k + 2 * n) := ⟨_, hid rfl⟩
  have hm0 : (0 : Int) ≤ (m : Int) := by omega
  rw [← HM.out] at HMS ⊢
  unfold storeV
  go_enter Tryz.func33, Tryz.ntmps33
  go_wp2_with (go_at_call 77; refine (HMS.out _ (h.below (hb0 _))).mono ?_; rintro e w1 ⟨rfl, hb1⟩)
  go_ret
  exact ⟨rfl, (hb0 _).trans (hb1.mono (by simp))⟩

end Go.Proofs.YtnmaknnnmjfhkafGreat
