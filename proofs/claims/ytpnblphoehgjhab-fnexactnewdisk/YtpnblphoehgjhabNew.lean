import Derived.Test.YtpnblphoehgjhabTo
import Derived.Test.YtpnblphoehgjhabDsk
import Derived.Deep.RegionLaw
namespace Go.Proofs.Ytpnblphoehgjhab
open Go.RowKit
set_option linter.unusedVariables false

theorem made_one (z : Value) (hz : z.cells = #[z]) (n : Nat) : (madeCells z.cells (n * 1)).toList = List.replicate n z := by
  unfold madeCells
  rw [Nat.mul_one, Array.toList_map, Array.toList_range, List.eq_replicate_iff]
  refine ⟨by simp, fun b hb => ?_⟩
  obtain ⟨i, _, rfl⟩ := List.mem_map.1 hb
  rw [hz]
  have : i % (#[z] : Array Value).size = 0 := by simp [Nat.mod_one]
  rw [this]; rfl
theorem infoU8 : (Try.prog.info? 5).map (fun i => (i.zero, i.size, i.bytes)) = some (some (.int .u8 0), 1, 1) := by kernel_rfl
/-- A sector full of zeros. -/
def zeros : ByteArray := strOfNums (List.replicate 64 0)
theorem zeros_s (w : World) : Calls Try.prog 30 #[] w fun e w' => e = .returned (.string zeros) ∧ Below w.heap.size w w' := by
  go_enter Try.func30, Try.ntmps30
  go_wp2_with (at_make; refine wpList_make_new rfl _ _ 56 rfl 5 _ 1 1 Try.underlying56 infoU8 64 rfl rfl (by omega) (by omega) ?_; intro wx hrow hbx hsx; rw [made_one _ rfl] at hrow; have hcv := run_convert_bytes_arg (P := Try.prog) wx 56 5 Try.underlying56 Try.underlying5 w.heap.size 0 64 64 (List.replicate 64 0) rfl (fun i hi => by rw [Nat.zero_add]; have h1 := hrow.cell i (.int .u8 0) (by rw [List.getElem?_replicate, if_pos hi]); rw [h1, List.getD_eq_getElem?_getD, List.getElem?_replicate, if_pos hi]; rfl) 9 Try.underlying9; clear hrow)
  go_ret
  exact ⟨rfl, hbx⟩

theorem Dsk.start (w : World) (t1 t2 e e' : TypeId) : Dsk w ((w.alloc (.cells #[.slice none 0 0, .slice none 0 0] t1)).alloc (.cells #[.slice none 0 0, .slice none 0 0] t2)) w.heap.size (w.heap.size + 1) (w.heap.size + 1 + 1) e e' (.slice none 0 0) (.slice none 0 0) [] [] := by
  have hb : Below w.heap.size w ((w.alloc (.cells #[.slice none 0 0, .slice none 0 0] t1)).alloc (.cells #[.slice none 0 0, .slice none 0 0] t2)) := ((Below.refl _ _).alloc (Nat.le_refl _) _).alloc (by simp) _
  have r1 := (row_new w #[.slice none 0 0, .slice none 0 0] t1).alloc (.cells #[.slice none 0 0, .slice none 0 0] t2)
  have r2 := row_new (w.alloc (.cells #[.slice none 0 0, .slice none 0 0] t1)) #[.slice none 0 0, .slice none 0 0] t2
  simp only [World.size_alloc] at r2
  exact ⟨Nat.le_refl _, by omega, by omega, by omega, by omega, by simp, hb, r1.cell 0 _ rfl, r1.cell 1 _ rfl, r1.froz 0 (by simp), r1.froz 1 (by simp), r2.cell 0 _ rfl, r2.cell 1 _ rfl, r2.froz 0 (by simp), r2.froz 1 (by simp), World.ownsRow_nil _ _ _ _, World.ownsRow_nil _ _ _ _, .inl rfl⟩

theorem info_parts' {P : Program} {e : TypeId} {z : Value} {size bytes : Nat} (h : (P.info? e).map (fun i => (i.zero, i.size, i.bytes)) = some (some z, size, bytes)) : ∃ i, P.info? e = some i ∧ i.zero = some z ∧ i.size = size ∧ i.bytes = bytes := by
  obtain ⟨i, hi, hh⟩ := Option.map_eq_some_iff.1 h
  simp only [Prod.mk.injEq] at hh
  exact ⟨i, hi, hh⟩

/-- A call of a Go function, by its contract, as one step of a region that draws its order. -/
theorem step_call {P : Program} {ops : Array Oper} {o : Oper} {a : Act} {w : World} {K : Act → World → Prop} {Q : Exit → Act → World → Prop} {E : Prop} (hgd : o.guard = none) (f : FuncId) (args : Array Value)
    (hrun : (execOp a.eval o).run P w = .ok (.enter f args) w) {C : Ending → World → Prop} (hc : Calls P f args w C) (h : ∀ e w', C e w' → ∃ v, e = .returned v ∧ K (a.put o.dst v) w') :
    if Region.wanted o (yielded ops a.tmps) = true then Oper.wp P o a w K Q else E := by
  have hw : Region.wanted o (yielded ops a.tmps) = true := by simp [Region.wanted, hgd]
  rw [if_pos hw]
  unfold Oper.wp
  rw [hrun, Oper.upon_enter]
  refine hc.mono fun e w'' hh => ?_
  obtain ⟨v, rfl, hk⟩ := h e w'' hh
  exact hk

set_option maxHeartbeats 1000000 in
theorem new_s (n : Nat) (w : World) (h1 : 8 ≤ n) (h2 : n ≤ 200) :
    Calls Try.prog 11 #[.int .i64 (n : Int)] w fun e w' => ∃ g c, e = .returned (diskV (some ⟨g, 0, none⟩) n c none 0 0) ∧ w.heap.size ≤ g ∧ Row w' g ((List.replicate n zeros).map Value.string) ∧ Below w.heap.size w w' := by
  have h1' : (8 : Int) ≤ (n : Int) := by omega
  have h2' : (n : Int) ≤ 200 := by omega
  obtain ⟨i0, hi0, hz0, hz1, hz2⟩ := info_parts' infoStr
  have HI := hid (And.intro hi0 (And.intro hz0 (And.intro hz1 hz2)))
  clear hi0 hz0 hz1 hz2
  go_enter Try.func11, Try.ntmps11
  go_wp2
  go_loopw [4] (fun i wr => ∃ (k : Nat) (v : Value), k ≤ n ∧ i = .int .i64 k ∧ Dsk w wr w.heap.size (w.heap.size + 1) (w.heap.size + 1 + 1) 9 78 v (.slice none 0 0) (List.replicate k zeros) []) (fun i _ => n - (intOf i).toNat)
  case atStart => exact ⟨0, _, Nat.zero_le _, rfl, Dsk.start _ _ _ _ _⟩
  case round =>
    obtain ⟨k, v, hk, rfl, hd⟩ := hrel
    by_cases hlt : k < n
    · have HD := hid hd
      have q0 := hd.d0
      have q1 := hd.fd0
      clear hd
      go_wp2_with fail
      go_region_law (first | (refine step_append_lies _ (by rfl) _ _ _ (by rfl) (w.heap.size + 1 + 1) 9 i0 (.string ByteArray.empty) 1 16 Try.underlying29 HI.out.1 HI.out.2.1 HI.out.2.2.1 HI.out.2.2.2 rfl (by omega) v (List.replicate k zeros).length ((List.replicate k zeros).map Value.string) (by rfl) HO.out ⟨w2.heap.size, 0, none⟩ 1 1 [.string zeros] (by rfl) rfl (World.news_of_block (heap_alloc_new w2 _)) (by intro u hu; simp at hu; subst hu; rfl) (by omega) (by rw [List.length_replicate]; unfold maxLen; omega) (by rw [List.length_replicate]; omega) (by simp <;> omega) (w2.heap.size + 1) (by simp) ?_; intro g cap w3 hown hgrow hat hlt3; obtain ⟨q4, q5⟩ := HDA.out.grown hgrow; have HOW := hid hown; have HGR := hid hgrow; have HAT := hid hat; clear hown hgrow hat) | (refine step_call (by rfl) 30 #[] (by go_simp) (zeros_s _) ?_; rintro e w2 ⟨rfl, hb2⟩; refine ⟨_, rfl, ?_⟩; have q2 := (HD.out.drew.below hb2).d0; have q3 := (HD.out.drew.below hb2).fd0; have hsz2 := (HD.out.drew.below hb2).sz; have hsz3 : w.heap.size + 1 < w2.heap.size := (by omega); have HO := hid ((HD.out.drew.below hb2).own.alloc (.cells #[.string zeros] 9)); have HDA := hid ((HD.out.drew.below hb2).alloc (.cells #[.string zeros] 9))))
      all_goals
        have hpush := HDA.out.push HOW.out HGR.out HAT.out (by simp)
        rw [List.length_replicate, show List.replicate k zeros ++ [zeros] = List.replicate (k + 1) zeros by rw [List.replicate_succ']] at hpush
        have HP := hid hpush
        clear hpush
        go_wp2
        go_roundw
        case rel => exact ⟨k + 1, _, by omega, by go_num, HP.out⟩
        case measure => simp [intOf]; omega
    · have hkn : k = n := by omega
      subst hkn
      have hof := owns_forms hd.own
      rw [List.length_replicate] at hof
      obtain ⟨g, cap, rfl, hg1, hg2, hrow⟩ : ∃ g cap, v = .slice (some ⟨g, 0, none⟩) k cap ∧ w.heap.size + 1 + 1 ≤ g ∧ g < wr.heap.size ∧ Row wr g ((List.replicate k zeros).map Value.string) := by
        rcases hof with h0 | h0
        · omega
        · exact h0
      clear hof
      have HD := hid hd.bel
      have HR := hid hrow
      clear hrow
      have q0 := hd.d0
      have q1 := hd.d1
      have q2 := hd.r0
      have q3 := hd.r1
      have q4 := hd.fr0
      have q5 := hd.fr1
      clear hd
      go_wp2
      refine bodyPost_ret (v := diskV (some ⟨g, 0, none⟩) k cap none 0 0) (by simp [results, Try.results11, go_sem, q2, q3]) rfl ⟨g, cap, rfl, by omega, ?_, ?_⟩
      · exact (HR.out.other _ (by show w.heap.size ≠ g; omega) _).other _ (by show w.heap.size ≠ g; omega) _
      · exact (HD.out.setCell (Nat.le_refl _) _).setCell (Nat.le_refl _) _
end Go.Proofs.Ytpnblphoehgjhab
