import Derived.Test.YtpnblphoehgjhabDrv
import Derived.Test.YtpnblphoehgjhabMk
import Derived.Test.YtpnblphoehgjhabValid
namespace Go.Proofs.Ytpnblphoehgjhab
open Go.RowKit
set_option linter.unusedVariables false

/-- A sector's cells, all zero. -/
def secZ : Value := .agg (Array.replicate 64 (.int .u8 0))
theorem infoSec : (Try.prog.info? 54).map (fun i => (i.zero, i.size, i.bytes)) = some (some secZ, 64, 64) := by kernel_rfl
theorem made_secs (n : Nat) : (madeCells secZ.cells (n * 64)).toList = List.replicate (n * 64) (.int .u8 0) := by
  unfold madeCells
  rw [Array.toList_map, Array.toList_range, List.eq_replicate_iff]
  refine ⟨by simp, fun b hb => ?_⟩
  obtain ⟨i, _, rfl⟩ := List.mem_map.1 hb
  have e1 : secZ.cells = Array.replicate 64 (.int .u8 0) := rfl
  have e2 : i % (Array.replicate 64 (Value.int .u8 0)).size < 64 := by rw [Array.size_replicate]; omega
  rw [e1]
  rw [getElem!_pos _ _ (by rw [Array.size_replicate] at e2 ⊢; exact e2)]
  simp
theorem plt_zero {w : World} {g : Nat} {n : Nat} (h : Row w g (List.replicate (n * 64) (.int .u8 0))) : Plt w (some ⟨g, 0, none⟩) (List.replicate n (List.replicate 64 0)) := by
  refine .inr ⟨g, 0, rfl, h.lt, fun i hi j v hv => ?_⟩
  rw [List.length_replicate] at hi
  have hg : (List.replicate n (List.replicate 64 (0 : Int))).getD i [] = List.replicate 64 0 := by rw [List.getD_eq_getElem?_getD, List.getElem?_replicate, if_pos hi]; rfl
  rw [hg, List.map_replicate, List.getElem?_replicate] at hv
  by_cases hj : j < 64
  · rw [if_pos hj] at hv
    cases hv
    rw [Nat.zero_add]
    exact h.cell _ _ (by rw [List.getElem?_replicate, if_pos (by omega)])
  · rw [if_neg hj] at hv; cases hv

theorem disk_i' (a : Option Addr) (ps : List (List Int)) (n c : Nat) (a' : Option Addr) (hs : List (Int × List Int)) (n' c' : Nat) (hn : ps.length = n) (hn' : hs.length = n') (w : World) (h : Plt w a ps) (h' : Hld w a' hs) (hl : n ≤ 200) (hl' : n' ≤ 300) (h64 : ∀ p ∈ ps, p.length = 64) (h64' : ∀ p ∈ hs, p.2.length = 64) :
    Calls Try.prog 32 #[diskV a n c a' n' c'] w fun e w' => ∃ a1 c1 a1' c1', e = .returned (diskV a1 n c1 a1' n' c1') ∧ OwnD w' a1 (secs ps) a1' (held hs) ∧ (∀ g, blk a1 n = some g → w.heap.size ≤ g) ∧ (∀ g, blk a1' n' = some g → w.heap.size ≤ g) ∧ Below w.heap.size w w' := by
  subst hn hn'
  refine (disk_i a ps c a' hs c' w h h' hl hl' h64 h64').mono ?_
  rintro e w' ⟨v, v', rfl, o1, o2, hap, hb⟩
  have l1 : (secs ps).length = ps.length := by simp [secs]
  have l2 : (held hs).length = hs.length := by simp [held]
  have f1 : ∃ a1 c1, v = .slice a1 ps.length c1 ∧ OwnS w' a1 ((secs ps).map Value.string) ∧ (∀ g, blk a1 ps.length = some g → w.heap.size ≤ g) ∧ (blk a1 ps.length = none ∨ blk a1 ps.length = v.ownBlock) := by
    rcases owns_forms o1 with ⟨e, h0⟩ | ⟨g, cap, e, h1, _, hr⟩
    · refine ⟨none, 0, by rw [h0]; exact e, .inl ?_, fun g hg => ?_, .inl ?_⟩
      · rw [List.eq_nil_of_length_eq_zero (l1.trans h0)]; rfl
      · rw [h0] at hg; cases hg
      · rw [h0]; rfl
    · refine ⟨_, cap, e, .inr ⟨g, rfl, hr⟩, fun g' hg => ?_, ?_⟩
      · unfold blk at hg; split at hg
        · cases hg
        · cases hg; exact h1
      · unfold blk; split
        · exact .inl rfl
        · right; rw [e]; rfl
  have f2 : ∃ a1 c1, v' = .slice a1 hs.length c1 ∧ OwnS w' a1 (wcells (held hs)) ∧ (∀ g, blk a1 hs.length = some g → w.heap.size ≤ g) ∧ (blk a1 hs.length = none ∨ blk a1 hs.length = v'.ownBlock) := by
    rcases owns_forms o2 with ⟨e, h0⟩ | ⟨g, cap, e, h1, _, hr⟩
    · refine ⟨none, 0, by rw [h0]; exact e, .inl ?_, fun g hg => ?_, .inl ?_⟩
      · rw [List.eq_nil_of_length_eq_zero (l2.trans h0)]; rfl
      · rw [h0] at hg; cases hg
      · rw [h0]; rfl
    · refine ⟨_, cap, e, .inr ⟨g, rfl, hr⟩, fun g' hg => ?_, ?_⟩
      · unfold blk at hg; split at hg
        · cases hg
        · cases hg; exact h1
      · unfold blk; split
        · exact .inl rfl
        · right; rw [e]; rfl
  obtain ⟨a1, c1, e1, g1, g2, g3⟩ := f1
  obtain ⟨a2, c2, e2, k1, k2, k3⟩ := f2
  refine ⟨a1, c1, a2, c2, by rw [e1, e2], ⟨g1, k1, ?_⟩, g2, k2, hb⟩
  rw [l1, l2]
  rcases g3 with g3 | g3
  · exact .inl g3
  · rcases k3 with k3 | k3
    · exact .inr (.inl k3)
    · rw [g3, k3]; exact hap

set_option maxHeartbeats 800000 in
theorem new_i (n : Nat) (w : World) (h1 : 8 ≤ n) (h2 : n ≤ 200) :
    Calls Try.prog 12 #[.int .i64 (n : Int)] w fun e w' => ∃ g c a' c', e = .returned (diskV (some ⟨g, 0, none⟩) n c a' 0 c') ∧ w.heap.size ≤ g ∧ Row w' g ((List.replicate n zeros).map Value.string) ∧ Below w.heap.size w w' := by
  have h1' : (8 : Int) ≤ (n : Int) := by omega
  have h2' : (n : Int) ≤ 200 := by omega
  have hd : decide (8 ≤ (n : Int) ∧ (n : Int) ≤ 200) = true := decide_eq_true ⟨h1', h2'⟩
  go_enter Try.func12, Try.ntmps12
  go_wp2_with (first | (go_at_call 31; refine (dsize_i _ _).mono ?_; rw [hd]; rintro e w' ⟨rfl, rfl⟩) | (at_make; refine wpList_make_new rfl _ _ 59 rfl 54 _ 64 64 Try.underlying59 infoSec n rfl rfl (by omega) (by omega) ?_; intro wx hrow hbx hsx; rw [made_secs] at hrow))
  have hW0 : Below (w.alloc (.cells #[.slice none 0 0, .slice none 0 0] 32)).heap.size (w.alloc (.cells #[.slice none 0 0, .slice none 0 0] 32)) wx := by simpa using hbx
  simp only [World.size_alloc] at hrow
  have hp := (plt_zero hrow).below ((Below.refl _ _).alloc (Nat.le_refl _) (.cells #[.slice (some ⟨w.heap.size + 1, 0, none⟩) n n, .slice none 0 0] 62))
  refine (disk_i' (some ⟨w.heap.size + 1, 0, none⟩) (List.replicate n (List.replicate 64 0)) n n none [] 0 0 (by simp) rfl _ hp (.inl rfl) h2 (by omega) (fun p hp => by rw [List.eq_of_mem_replicate hp]; simp) (fun p hp => by simp at hp)).mono ?_
  rintro e w3 ⟨a1, c1, a2, c2, rfl, ho, hg1, hg2, hb3⟩
  have hb4 := hW0.trans (((Below.refl _ _).alloc (Nat.le_refl _) _).trans (hb3.mono (by simp)) |>.mono hW0.size)
  have hs1 : w.heap.size + 1 ≤ wx.heap.size := by have := hW0.size; simpa using this
  obtain ⟨g, rfl, hr⟩ := ho.s.resolve_left (strs_ne (by simp [secs]; omega))
  have hgw : w.heap.size + 1 ≤ g := by have := hg1 g (blk_pos g 0 n (by omega)); simp at this; omega
  have hsec : secs (List.replicate n (List.replicate 64 0)) = List.replicate n zeros := by simp [secs, zeros]
  rw [hsec] at hr
  have q0 : w3.cell? ⟨w.heap.size, 0, none⟩ = some (.slice none 0 0) := (hb4.cell (p := ⟨w.heap.size, 0, none⟩) (by simp)).trans (by go_simp)
  have q1 : w3.cell? ⟨w.heap.size, 1, none⟩ = some (.slice none 0 0) := (hb4.cell (p := ⟨w.heap.size, 1, none⟩) (by simp)).trans (by go_simp)
  have f0 : w3.frozen? ⟨w.heap.size, 0, none⟩ = false := (hb4.frozen (p := ⟨w.heap.size, 0, none⟩) (by simp)).trans (by go_simp)
  have f1 : w3.frozen? ⟨w.heap.size, 1, none⟩ = false := (hb4.frozen (p := ⟨w.heap.size, 1, none⟩) (by simp)).trans (by go_simp)
  have HR := hid hr
  have HB := hid (((Below.refl w.heap.size w).alloc (Nat.le_refl _) (.cells #[.slice none 0 0, .slice none 0 0] 32)).trans (hb4.mono (by simp)))
  clear hb4 hb3 ho hg1 hg2 hp hrow hW0 hbx hr hsec
  go_wp2
  refine bodyPost_ret (v := diskV (some ⟨g, 0, none⟩) n c1 a2 0 c2) (by simp [results, Try.results12, go_sem, q0, q1]) rfl ⟨g, c1, a2, c2, rfl, by omega, ?_, ?_⟩
  · exact (HR.out.other _ (by show w.heap.size ≠ g; omega) _).other _ (by show w.heap.size ≠ g; omega) _
  · exact (HB.out.setCell (Nat.le_refl _) _).setCell (Nat.le_refl _) _
end Go.Proofs.Ytpnblphoehgjhab
