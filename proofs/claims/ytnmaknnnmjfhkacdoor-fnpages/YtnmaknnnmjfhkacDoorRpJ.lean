import Derived.Test.YtnmaknnnmjfhkacDoorRpI
import Derived.Test.YtnmaknnnmjfhkacDoorRpP
import Derived.Test.YtnmaknnnmjfhkacDoorArrEq
namespace Go.Proofs.YtnmaknnnmjfhkacDoor
open Go.RowKit
set_option maxRecDepth 4000
set_option linter.unusedVariables false
set_option linter.unusedSimpArgs false
/-- What parsePage answers: the page or a fault. -/
def prV (E : Addr) (o : Option (Int × Int × Int × ByteArray)) : Value := match o with
  | none => .tuple #[pageV 0 0 0 ⟨#[]⟩, .iface 43 (.pointer (some E))]
  | some (k, l, m, p) => .tuple #[pageV k l m p, .nilIface]
/-- A number read out of a form. -/
theorem take_fm (F : Nat) (xs : List Int) (hr : Hid (∀ y ∈ xs, 0 ≤ y ∧ y ≤ 255)) (o k c : Nat) (hk : k ≤ 4) (ho : o + k ≤ xs.length) (w : World) (hf : Fm w F xs) (V : Int) (hV : V = numOf ((xs.drop o).take k)) : Calls Tryd.prog 33 #[.slice (some ⟨F, o, none⟩) k c] w fun e w' => e = .returned (.int .u64 V) ∧ w' = w := by
  have hl : ((xs.drop o).take k).length = k := by simp; omega
  have h := take_i F o ((xs.drop o).take k) c w (fun y hy => hr.out y (List.mem_of_mem_drop (List.mem_of_mem_take hy))) (by omega) (fun i hi => by
    rw [hf.cell (o + i) (by omega)]
    rw [hl] at hi
    simp [List.getD, List.getElem?_take_of_lt hi, List.getElem?_drop])
  rw [hl, ← hV] at h
  exact h

set_option maxHeartbeats 1000000 in
theorem parse_no_width (s : ByteArray) (n : Int) (w : World) (ty : TypeId) (v : Value) (hv : w.cell? ⟨1, 0, none⟩ = some (.iface ty v)) (hg : 1 < w.heap.size) (hn : ¬ (1 ≤ n ∧ n ≤ 8)) : Calls Tryd.prog 16 #[.string s, .int .i64 n] w fun e w' => (∃ E, e = .returned (prV E none)) ∧ Below w.heap.size w w' := by
  have hd : decide (1 ≤ n ∧ n ≤ 8) = false := by simpa using hn
  have hb0 : ∀ o o', Below w.heap.size w ((w.alloc o).alloc o') := fun o o' => ((Below.refl _ _).alloc (Nat.le_refl _) _).alloc (by simp) _
  have hva : ∀ o, (w.alloc o).cell? ⟨1, 0, none⟩ = some (.iface ty v) := fun o => (World.cell?_alloc_past _ _ _ (by exact hg)).trans hv
  clear hn
  go_enter Tryd.func16, Tryd.ntmps16
  go_wp2_with (first | (go_at_call 28; refine (width_i _ _).mono ?_; rw [hd]; rintro e w2 ⟨rfl, rfl⟩) | (go_at_call 31; refine (nopage_i _ ty v _ (hva _)).mono ?_; rintro e w2 ⟨rfl, rfl⟩))
  refine bodyPost_ret (v := .tuple #[pageV 0 0 0 ⟨#[]⟩, .iface 43 (.pointer (some ⟨w.heap.size + 1, 0, none⟩))]) (by simp [results, Tryd.results16, go_sem]) rfl ⟨⟨_, rfl⟩, ?_⟩
  exact hb0 _ _
set_option maxHeartbeats 1000000 in
theorem parse_no_size (s : ByteArray) (n : Int) (w : World) (ty : TypeId) (v : Value) (hv : w.cell? ⟨1, 0, none⟩ = some (.iface ty v)) (hg : 1 < w.heap.size) (hn : 1 ≤ n ∧ n ≤ 8) (hs : s.size ≠ 64) : Calls Tryd.prog 16 #[.string s, .int .i64 n] w fun e w' => (∃ E, e = .returned (prV E none)) ∧ Below w.heap.size w w' := by
  have hd : decide (1 ≤ n ∧ n ≤ 8) = true := by simpa using hn
  have hs' : ((s.size : Int) != 64) = true := by simp; omega
  have hb0 : ∀ o o', Below w.heap.size w ((w.alloc o).alloc o') := fun o o' => ((Below.refl _ _).alloc (Nat.le_refl _) _).alloc (by simp) _
  have hva : ∀ o, (w.alloc o).cell? ⟨1, 0, none⟩ = some (.iface ty v) := fun o => (World.cell?_alloc_past _ _ _ (by exact hg)).trans hv
  clear hn hs
  go_enter Tryd.func16, Tryd.ntmps16
  go_wp2_with (first | (go_at_call 28; refine (width_i _ _).mono ?_; rw [hd]; rintro e w2 ⟨rfl, rfl⟩) | (go_at_call 31; refine (nopage_i _ ty v _ (hva _)).mono ?_; rintro e w2 ⟨rfl, rfl⟩))
  refine bodyPost_ret (v := .tuple #[pageV 0 0 0 ⟨#[]⟩, .iface 43 (.pointer (some ⟨w.heap.size + 1, 0, none⟩))]) (by simp [results, Tryd.results16, go_sem]) rfl ⟨⟨_, rfl⟩, ?_⟩
  exact hb0 _ _
end Go.Proofs.YtnmaknnnmjfhkacDoor
