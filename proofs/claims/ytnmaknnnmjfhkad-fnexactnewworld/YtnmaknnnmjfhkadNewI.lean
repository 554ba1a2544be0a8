import Derived.Test.YtnmaknnnmjfhkadDrv2
import Derived.Test.YtnmaknnnmjfhkadNew
import Derived.Test.YtnmaknnnmjfhkadValid
namespace Go.Proofs.Ytnmaknnnmjfhkad
open Go.RowKit
set_option maxRecDepth 4000
set_option linter.unusedVariables false

set_option maxHeartbeats 800000 in
theorem new_i (n : Nat) (w : World) (h1 : 8 ≤ n) (h2 : n ≤ 200) :
    Calls Try.prog 108 #[.int .i64 (n : Int)] w fun e w' => ∃ g c a' c', e = .returned (diskV (some ⟨g, 0, none⟩) n c a' 0 c') ∧ w.heap.size ≤ g ∧ Row w' g ((List.replicate n zeros).map Value.string) ∧ Below w.heap.size w w' := by
  have h1' : (8 : Int) ≤ (n : Int) := by omega
  have h2' : (n : Int) ≤ 200 := by omega
  have hd : decide (8 ≤ (n : Int) ∧ (n : Int) ≤ 200) = true := decide_eq_true ⟨h1', h2'⟩
  go_enter Try.func108, Try.ntmps108
  go_wp2_with (first | (go_at_call 107; refine (dsize_i _ _).mono ?_; rw [hd]; rintro e w' ⟨rfl, rfl⟩) | (at_make; refine wpList_make_new rfl _ _ 134 rfl 140 _ 64 64 Try.underlying134 infoSec n rfl rfl (by omega) (by omega) ?_; intro wx hrow hbx hsx; rw [made_secs] at hrow))
  have hW0 : Below (w.alloc (.cells #[.slice none 0 0, .slice none 0 0] 57)).heap.size (w.alloc (.cells #[.slice none 0 0, .slice none 0 0] 57)) wx := by simpa using hbx
  simp only [World.size_alloc] at hrow
  have hp := (plt_zero hrow).below ((Below.refl _ _).alloc (Nat.le_refl _) (.cells #[.slice (some ⟨w.heap.size + 1, 0, none⟩) n n, .slice none 0 0] 137))
  refine (disk_i' (some ⟨w.heap.size + 1, 0, none⟩) (List.replicate n (List.replicate 64 0)) n n none [] 0 0 (by simp) rfl _ hp (.inl rfl) h2 (by omega) (fun p hp => by rw [List.eq_of_mem_replicate hp]; simp) (fun p hp => by simp at hp)).mono ?_
  rintro e w3 ⟨a1, c1, a2, c2, rfl, ho, hg1, hg2, hb3⟩
  have hb4 := hW0.trans (((Below.refl _ _).alloc (Nat.le_refl _) _).trans (hb3.mono (by simp)) |>.mono hW0.size)
  have hs1 : w.heap.size + 1 ≤ wx.heap.size := by have := hW0.size; simpa using this
  obtain ⟨g, rfl, hr⟩ := ho.s.resolve_left (strs_ne (by simp [secs]; omega))
  have hgw : w.heap.size + 1 ≤ g := by have := hg1 g (blk_pos g 0 n (by omega)); simp at this; omega
  have hsec : secs (List.replicate n (List.replicate 64 0)) = List.replicate n zeros := by simp [secs, zeros]
  rw [hsec] at hr
  have q0 : w3.cell? ⟨w.heap.size, 0, none⟩ = some (.slice none 0 0) := (hb4.cell (p := ⟨w.heap.size, 0, none⟩) (by simp)).trans (by go_simp)
  have q1 : w3.cell? ⟨w.heap.size, 1, none⟩ = some (.slice none 0 0) := (hb4.cell (p := ⟨w.heap.size, 1, none⟩) (by simp)).trans (by go_simp)
  have f0 : w3.frozen? ⟨w.heap.size, 0, none⟩ = false := (hb4.frozen (p := ⟨w.heap.size, 0, none⟩) (by simp)).trans (by go_simp)
  have f1 : w3.frozen? ⟨w.heap.size, 1, none⟩ = false := (hb4.frozen (p := ⟨w.heap.size, 1, none⟩) (by simp)).trans (by go_simp)
  have HR := hid hr
  have HB := hid (((Below.refl w.heap.size w).alloc (Nat.le_refl _) (.cells #[.slice none 0 0, .slice none 0 0] 57)).trans (hb4.mono (by simp)))
  clear hb4 hb3 ho hg1 hg2 hp hrow hW0 hbx hr hsec
  go_wp2
  refine bodyPost_ret (v := diskV (some ⟨g, 0, none⟩) n c1 a2 0 c2) (by simp [results, Try.results108, go_sem, q0, q1]) rfl ⟨g, c1, a2, c2, rfl, by omega, ?_, ?_⟩
  · exact (HR.out.other _ (by show w.heap.size ≠ g; omega) _).other _ (by show w.heap.size ≠ g; omega) _
  · exact (HB.out.setCell (Nat.le_refl _) _).setCell (Nat.le_refl _) _
end Go.Proofs.Ytnmaknnnmjfhkad
