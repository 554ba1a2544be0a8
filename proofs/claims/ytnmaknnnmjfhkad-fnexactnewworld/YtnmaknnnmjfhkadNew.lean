import Derived.Test.YtnmaknnnmjfhkadNewG
namespace Go.Proofs.Ytnmaknnnmjfhkad
open Go.RowKit
set_option maxRecDepth 4000
set_option linter.unusedVariables false

theorem infoU8 : (Try.prog.info? 5).map (fun i => (i.zero, i.size, i.bytes)) = some (some (.int .u8 0), 1, 1) := by kernel_rfl
/-- A sector full of zeros. -/
def zeros : ByteArray := strOfNums (List.replicate 64 0)
theorem zeros_s (w : World) : Calls Try.prog 135 #[] w fun e w' => e = .returned (.string zeros) ∧ Below w.heap.size w w' := by
  go_enter Try.func135, Try.ntmps135
  go_wp2_with (at_make; refine wpList_make_new rfl _ _ 22 rfl 5 _ 1 1 Try.underlying22 infoU8 64 rfl rfl (by omega) (by omega) ?_; intro wx hrow hbx hsx; rw [made_one _ rfl] at hrow; have hcv := run_convert_bytes_arg (P := Try.prog) wx 22 5 Try.underlying22 Try.underlying5 w.heap.size 0 64 64 (List.replicate 64 0) rfl (fun i hi => by rw [Nat.zero_add]; have h1 := hrow.cell i (.int .u8 0) (by rw [List.getElem?_replicate, if_pos hi]); rw [h1, List.getD_eq_getElem?_getD, List.getElem?_replicate, if_pos hi]; rfl) 9 Try.underlying9; clear hrow)
  go_ret
  exact ⟨rfl, hbx⟩

set_option maxHeartbeats 1000000 in
theorem new_s (n : Nat) (w : World) (h1 : 8 ≤ n) (h2 : n ≤ 200) :
    Calls Try.prog 105 #[.int .i64 (n : Int)] w fun e w' => ∃ g c, e = .returned (diskV (some ⟨g, 0, none⟩) n c none 0 0) ∧ w.heap.size ≤ g ∧ Row w' g ((List.replicate n zeros).map Value.string) ∧ Below w.heap.size w w' := by
  have h1' : (8 : Int) ≤ (n : Int) := by omega
  have h2' : (n : Int) ≤ 200 := by omega
  obtain ⟨i0, hi0, hz0, hz1, hz2⟩ := info_parts' infoStr
  have HI := hid (And.intro hi0 (And.intro hz0 (And.intro hz1 hz2)))
  clear hi0 hz0 hz1 hz2
  go_enter Try.func105, Try.ntmps105
  go_wp2
  go_loopw [4] (fun i wr => ∃ (k : Nat) (v : Value), k ≤ n ∧ i = .int .i64 k ∧ Dsk w wr w.heap.size (w.heap.size + 1) (w.heap.size + 1 + 1) 9 130 v (.slice none 0 0) (List.replicate k zeros) []) (fun i _ => n - (intOf i).toNat)
  case atStart => exact ⟨0, _, Nat.zero_le _, rfl, Dsk.start _ _ _ _ _⟩
  case round =>
    obtain ⟨k, v, hk, rfl, hd⟩ := hrel
    by_cases hlt : k < n
    · have HD := hid hd
      have q0 := hd.d0
      have q1 := hd.fd0
      clear hd
      go_wp2_with fail
      go_region_law (first | (refine step_append_lies _ (by rfl) _ _ _ (by rfl) (w.heap.size + 1 + 1) 9 i0 (.string ByteArray.empty) 1 16 Try.underlying49 HI.out.1 HI.out.2.1 HI.out.2.2.1 HI.out.2.2.2 rfl (by omega) v (List.replicate k zeros).length ((List.replicate k zeros).map Value.string) (by rfl) HO.out ⟨w2.heap.size, 0, none⟩ 1 1 [.string zeros] (by rfl) rfl (World.news_of_block (heap_alloc_new w2 _)) (by intro u hu; simp at hu; subst hu; rfl) (by omega) (by rw [List.length_replicate]; unfold maxLen; omega) (by rw [List.length_replicate]; omega) (by simp <;> omega) (w2.heap.size + 1) (by simp) ?_; intro g cap w3 hown hgrow hat hlt3; obtain ⟨q4, q5⟩ := HDA.out.grown hgrow; have HOW := hid hown; have HGR := hid hgrow; have HAT := hid hat; clear hown hgrow hat) | (refine step_call (by rfl) 135 #[] (by go_simp) (zeros_s _) ?_; rintro e w2 ⟨rfl, hb2⟩; refine ⟨_, rfl, ?_⟩; have q2 := (HD.out.drew.below hb2).d0; have q3 := (HD.out.drew.below hb2).fd0; have hsz2 := (HD.out.drew.below hb2).sz; have hsz3 : w.heap.size + 1 < w2.heap.size := (by omega); have HO := hid ((HD.out.drew.below hb2).own.alloc (.cells #[.string zeros] 9)); have HDA := hid ((HD.out.drew.below hb2).alloc (.cells #[.string zeros] 9))))
      all_goals
        have hpush := HDA.out.push HOW.out HGR.out HAT.out (by simp)
        rw [List.length_replicate, show List.replicate k zeros ++ [zeros] = List.replicate (k + 1) zeros by rw [List.replicate_succ']] at hpush
        have HP := hid hpush
        clear hpush
        go_wp2
        go_roundw
        case rel => exact ⟨k + 1, _, by omega, by go_num, HP.out⟩
        case measure => simp [intOf]; omega
    · have hkn : k = n := by omega
      subst hkn
      have hof := owns_forms hd.own
      rw [List.length_replicate] at hof
      obtain ⟨g, cap, rfl, hg1, hg2, hrow⟩ : ∃ g cap, v = .slice (some ⟨g, 0, none⟩) k cap ∧ w.heap.size + 1 + 1 ≤ g ∧ g < wr.heap.size ∧ Row wr g ((List.replicate k zeros).map Value.string) := by
        rcases hof with h0 | h0
        · omega
        · exact h0
      clear hof
      have HD := hid hd.bel
      have HR := hid hrow
      clear hrow
      have q0 := hd.d0
      have q1 := hd.d1
      have q2 := hd.r0
      have q3 := hd.r1
      have q4 := hd.fr0
      have q5 := hd.fr1
      clear hd
      go_wp2
      refine bodyPost_ret (v := diskV (some ⟨g, 0, none⟩) k cap none 0 0) (by simp [results, Try.results105, go_sem, q2, q3]) rfl ⟨g, cap, rfl, by omega, ?_, ?_⟩
      · exact (HR.out.other _ (by show w.heap.size ≠ g; omega) _).other _ (by show w.heap.size ≠ g; omega) _
      · exact (HD.out.setCell (Nat.le_refl _) _).setCell (Nat.le_refl _) _
end Go.Proofs.Ytnmaknnnmjfhkad
