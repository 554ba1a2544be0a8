import Derived.Test.YtnmaknnnmjfhkafGreatCpP
namespace Go.Proofs.YtnmaknnnmjfhkafGreat
open Go.RowKit
set_option linter.unusedVariables false
set_option linter.unusedSimpArgs false
set_option maxRecDepth 4000

set_option maxHeartbeats 1000000 in
theorem copy_st_i (a : Option Addr) (rs : List (ByteArray × ByteArray)) (c : Nat) (w : World) (h : Prs w a rs) (hl : rs.length ≤ 1048576) :
    Calls Tryz.prog 26 #[stV a rs.length c] w fun e w' => CpPost w w' e rs := by
  obtain ⟨i0, hi0, hz0, hz1, hz2⟩ := info_partsP info_prC
  have HI := hid (And.intro hi0 (And.intro hz0 (And.intro hz1 hz2)))
  clear hi0 hz0 hz1 hz2
  have hb0 : ∀ o1 o2, Below w.heap.size w ((w.alloc o1).alloc o2) := fun o1 o2 => ((Below.refl _ _).alloc (Nat.le_refl _) _).alloc (by simp) _
  go_enter Tryz.func26, Tryz.ntmps26
  go_wp2_with (at_builtin; refine wpList_append_copy rfl _ _ 31 rfl 127 i0 _ 2 32 Tryz.underlying31 HI.out.1 HI.out.2.1 HI.out.2.2.1 HI.out.2.2.2 _ rfl (.inl rfl) _ rfl rs.length _ (src_prs (h.below (hb0 _ _)) _ _ Tryz.underlying31 c) hl (by omega) ?_; intro a' cap wx hcap hrow hbx; have c1 : wx.cell? ⟨w.heap.size + 1, 0, none⟩ = some (.slice none 0 0) := (hbx.cell (p := ⟨w.heap.size + 1, 0, none⟩) (by simp <;> omega)).trans (by go_simp); have f1 : wx.frozen? ⟨w.heap.size + 1, 0, none⟩ = false := (hbx.frozen (p := ⟨w.heap.size + 1, 0, none⟩) (by simp <;> omega)).trans (by go_simp); have HBX := hid ((hb0 _ _).trans (hbx.mono (by simp <;> omega))); have HRW := hid (cp_endP (w := w) hrow (by simp; omega)); have hszx : w.heap.size + 1 < wx.heap.size := Nat.lt_of_lt_of_le (by simp) hbx.size; clear hrow hbx)
  refine bodyPost_ret (v := stV a' rs.length cap) (by simp [results, Tryz.results26, go_sem, c1]) rfl ⟨a', cap, rfl, hcap, ?_, fun g hg => (HRW.out.2 g hg).1, HBX.out.setCell (by show w.heap.size ≤ w.heap.size + 1; omega) _⟩
  rcases HRW.out.1 with h1 | ⟨g, rfl, h1⟩
  · exact .inl h1
  · by_cases h0 : rs.length = 0
    · exact .inl (by rw [List.eq_nil_of_length_eq_zero h0]; rfl)
    · have := (HRW.out.2 g (blk_pos _ _ _ h0)).2
      exact .inr ⟨g, rfl, h1.other _ (by show w.heap.size + 1 ≠ g; rw [this]; simp <;> omega) _⟩
end Go.Proofs.YtnmaknnnmjfhkafGreat
