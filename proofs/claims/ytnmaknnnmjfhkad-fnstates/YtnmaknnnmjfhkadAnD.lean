import Derived.Test.YtnmaknnnmjfhkadAnL
namespace Go.Proofs.Ytnmaknnnmjfhkad
open Go.RowKit
set_option maxRecDepth 8000
set_option linter.unusedVariables false
set_option linter.unusedSimpArgs false

theorem open_rS (a : Option Addr) (n c : Nat) (w : World) (h : Bys w a n) (hn : n ≤ 1048576) (hc : n ≤ c) : Calls Try.prog 50 #[.slice a n c] w fun e w' => e = .returned (.pointer (some ⟨w.heap.size, 0, none⟩)) ∧ (∃ m c', m ≤ n ∧ Rdr w' w.heap.size a m c' 0) ∧ Below w.heap.size w w' := by
  by_cases h2 : n ≤ 2000
  · have h2' : (n : Int) ≤ 2000 := by omega
    go_enter Try.func50, Try.ntmps50
    go_wp2
    go_ret
    exact ⟨rfl, ⟨n, c, Nat.le_refl _, h.rdr (Nat.le_refl _) h2 c _⟩, (Below.refl _ _).alloc (Nat.le_refl _) _⟩
  · have h2' : 2000 < (n : Int) := by omega
    have hc2 : (2000 : Int) ≤ (c : Int) := by omega
    have HR := hid (h.rdr (m := 2000) (by omega) (Nat.le_refl _) c 168)
    obtain ⟨g, o, ha, hx⟩ := h
    obtain rfl : a = some ⟨g, o, none⟩ := ha.resolve_left (by omega)
    go_enter Try.func50, Try.ntmps50
    go_wp2
    go_ret
    refine ⟨rfl, ?_, (Below.refl _ _).alloc (Nat.le_refl _) _⟩
    first | exact ⟨2000, c, by omega, HR.out⟩ | exact ⟨2000, by omega, c, HR.out⟩
set_option maxHeartbeats 8000000 in
theorem das_r (a : Option Addr) (n c : Nat) (w : World) (h : Bys w a n) (hn : n ≤ 1048576) (hc : n ≤ c) :
    Calls Try.prog 9 #[.slice a n c] w fun e w' => (∃ ya yc rs ba bc b, e = .returned (.tuple #[.agg #[.slice ya (List.length rs) yc], .slice ba (List.length b) bc]) ∧ Prs w' ya rs ∧ Chs w' ba b ∧ rs.length ≤ 102 ∧ psLe rs 64000 64000 ∧ b.length ≤ 21 ∧ chsLe b 64000 64000) ∧ Below w.heap.size w w' := by
  have hb0 := below_nw w (.cells #[.slice none 0 0] 25)
  have rB := row_new w #[.slice none 0 0] 25
  go_enter Try.func9, Try.ntmps9
  go_wp2_with fail
  refine (open_rS a n c _ (h.below hb0) hn hc).mono ?_
  rintro e w1 ⟨rfl, ⟨n', c', hnn, hr1⟩, hb1⟩
  have rB := rB.below hb1
  have be1 := hb0.trans (hb1.mono (by simp))
  simp only [World.size_alloc] at hr1 ⊢
  have lR1 := lt_of_cell hr1.pc
  clear hb1
  go_wp2_with fail
  refine (any_r (w.heap.size + 1) a n' c' 0 _ hr1 (by omega)).mono ?_
  rintro e w2 ⟨⟨y, rs, rfl, hown, hl, hps⟩, ⟨q, q0, q1, hr2⟩, hg2⟩
  have rB := rB.grown hg2 (fun e => by injection e with e; omega)
  have be2 := be1.trans (grown_below hg2 be1.size (fun g e => by cases e; omega))
  obtain ⟨ya, yc, rfl, _⟩ := owns_prs hown
  have l12 : w1.heap.size ≤ w2.heap.size := hg2.size
  clear hg2 hr1
  have hr3 := hr2.below (below_nw w2 (.cells #[.slice ya rs.length yc] 25))
  have rX := row_new w2 #[.slice ya rs.length yc] 25
  have rB := rB.alloc (.cells #[.slice ya rs.length yc] 25)
  have hown := hown.alloc (.cells #[.slice ya rs.length yc] 25)
  have be3 := be2.trans ((below_nw w2 (.cells #[.slice ya rs.length yc] 25)).mono be2.size)
  have s3 : (w2.alloc (.cells #[.slice ya rs.length yc] 25)).heap.size = w2.heap.size + 1 := by simp
  go_wp2_with fail
  obtain ⟨w3, e_w3⟩ : ∃ z, z = w2.alloc (.cells #[.slice ya rs.length yc] 25) := ⟨_, rfl⟩
  rw [← e_w3] at hr3 rX rB hown be3 s3 ⊢
  clear e_w3 hr2
  refine (batch_r (w.heap.size + 1) a n' c' q _ hr3 (by omega)).mono ?_
  rintro e w4 ⟨⟨v, b, rfl, hob, ⟨hb1, hb2⟩, hble⟩, ⟨q4, q40, q41, hr4⟩, hg4⟩
  have rB := rB.grown hg4 (fun e => by injection e with e; omega)
  have rX := rX.grown hg4 (fun e => by injection e with e; omega)
  have hown := hown.kept hg4 (.inr (fun e => by have := (hown.lt _ e).1; omega))
  have be4 := be3.trans (grown_below hg4 be3.size (fun g e => by cases e; omega))
  obtain ⟨ba, bc, rfl⟩ := owns_slice hob
  have l34 : w3.heap.size ≤ w4.heap.size := hg4.size
  clear hg4 hr3
  go_wp2_with fail
  refine (pick_r (w.heap.size + 1) a n' c' q4 8 _ hr4 (by omega)).mono ?_
  rintro e w5 ⟨⟨z, rfl, z0, z1⟩, hr5, hg5⟩
  have rB := rB.grown hg5 (fun e => by injection e with e; omega)
  have rX := rX.grown hg5 (fun e => by injection e with e; omega)
  have hown := hown.kept hg5 (.inr (fun e => by have := (hown.lt _ e).1; omega))
  have hob := hob.kept hg5 (.inr (fun e => by have := (hob.lt _ e).1; omega))
  have be5 := be4.trans (grown_below hg5 be4.size (fun g e => by cases e; omega))
  have l45 : w4.heap.size ≤ w5.heap.size := hg5.size
  clear hg5 hr4
  by_cases hz : z = 0
  · subst hz
    go_wp2_with fail
    refine (spoil_r (w.heap.size + 1) a n' c' (q4 + 1) b _ w3.heap.size _ hr5 (by omega) hob hb1 hb2 (hble.mono (by omega) (by omega))).mono ?_
    rintro e w6 ⟨⟨v6, b6, rfl, hob6, hl6, hle6⟩, _, hg6⟩
    have rB := rB.grown hg6 (fun e => by injection e with e; omega)
    have rX := rX.grown hg6 (fun e => by injection e with e; omega)
    have hown := hown.kept hg6 (.inr (fun e => by have := (hown.lt _ e).1; omega))
    have be6 := be5.trans (grown_below hg6 be5.size (fun g e => by cases e; omega))
    obtain ⟨ba6, bc6, rfl⟩ := owns_slice hob6
    have k0 := rX.cell 0 _ rfl
    have k2 := rX.lt
    have b0 := rB.cell 0 _ rfl
    have b1 := rB.froz 0 (by simp)
    have b2 := rB.lt
    have HF := hid (And.intro (prs_own (ownsRow_setCell_other (a := ⟨w.heap.size, 0, none⟩) hown (fun e => by have : w1.heap.size ≤ w.heap.size := (hown.lt _ e).1; omega) (.slice ya rs.length yc))) (And.intro (chs_own (ownsRow_setCell_other (a := ⟨w.heap.size, 0, none⟩) hob6 (fun e => by have : w5.heap.size ≤ w.heap.size := (hob6.lt _ e).1; have := be5.size; omega) (.slice ya rs.length yc))) (be6.setCell (p := ⟨w.heap.size, 0, none⟩) (Nat.le_refl _) (.slice ya rs.length yc))))
    clear hown hob6 be6 rX rB hg6
    go_wp2
    refine bodyPost_ret (v := .tuple #[.agg #[.slice ya rs.length yc], .slice ba6 b6.length bc6]) (by simp [results, Try.results9, go_sem, b0]) rfl ?_
    exact ⟨⟨ya, yc, rs, ba6, bc6, b6, rfl, HF.out.1, HF.out.2.1, hl, hps, hl6, hle6⟩, HF.out.2.2⟩
  · have hzb : (z == 0) = false := by simp [hz]
    have k0 := rX.cell 0 _ rfl
    have k2 := rX.lt
    have b0 := rB.cell 0 _ rfl
    have b1 := rB.froz 0 (by simp)
    have b2 := rB.lt
    have HF := hid (And.intro (prs_own (ownsRow_setCell_other (a := ⟨w.heap.size, 0, none⟩) hown (fun e => by have : w1.heap.size ≤ w.heap.size := (hown.lt _ e).1; omega) (.slice ya rs.length yc))) (And.intro (chs_own (ownsRow_setCell_other (a := ⟨w.heap.size, 0, none⟩) hob (fun e => by have : w3.heap.size ≤ w.heap.size := (hob.lt _ e).1; omega) (.slice ya rs.length yc))) (be5.setCell (p := ⟨w.heap.size, 0, none⟩) (Nat.le_refl _) (.slice ya rs.length yc))))
    clear hown hob be5 rX rB
    go_wp2
    refine bodyPost_ret (v := .tuple #[.agg #[.slice ya rs.length yc], .slice ba b.length bc]) (by simp [results, Try.results9, go_sem, b0]) rfl ?_
    exact ⟨⟨ya, yc, rs, ba, bc, b, rfl, HF.out.1, HF.out.2.1, hl, hps, by omega, hble.mono (by omega) (by omega)⟩, HF.out.2.2⟩
set_option maxHeartbeats 4000000 in
/-- Two states that are the same. -/
theorem wstate_eq (a b : Option Addr) (rs : List Pr) (c c' : Nat) (w : World) (h : Prs w a rs) (h' : Prs w b rs) (hl : rs.length ≤ 1048576) :
    Calls Try.prog 12 #[.agg #[.slice a rs.length c], .agg #[.slice b rs.length c']] w fun e w' => e = .returned (.bool true) ∧ Below w.heap.size w w' := by
  have hb2 : Below w.heap.size w ((w.alloc (.cells #[.slice a rs.length c] 25)).alloc (.cells #[.slice b rs.length c'] 25)) := (below_nw _ _).trans ((below_nw _ _).mono (by simp))
  have rA := (row_new w #[.slice a rs.length c] 25).alloc (.cells #[.slice b rs.length c'] 25)
  have rB := row_new (w.alloc (.cells #[.slice a rs.length c] 25)) #[.slice b rs.length c'] 25
  simp only [World.size_alloc] at rB
  go_enter Try.func12, Try.ntmps12
  go_wp2
  obtain ⟨wb, e_wb⟩ : ∃ z, z = (w.alloc (.cells #[.slice a rs.length c] 25)).alloc (.cells #[.slice b rs.length c'] 25) := ⟨_, rfl⟩
  rw [← e_wb] at hb2 rA rB ⊢
  clear e_wb
  go_loopw [5] (fun i wr => ∃ (k : Nat), k ≤ rs.length ∧ i = .int .i64 k ∧ Below wb.heap.size wb wr) (fun i _ => rs.length - (intOf i).toNat)
  case atStart => exact ⟨0, Nat.zero_le _, rfl, Below.refl _ _⟩
  case round =>
    obtain ⟨k, hk, rfl, hbel⟩ := hrel
    have rA := rA.below hbel
    have rB := rB.below hbel
    have a0 := rA.cell 0 _ rfl
    have a1 := rA.lt
    have b0 := rB.cell 0 _ rfl
    have b1 := rB.lt
    have hbw := hb2.trans (hbel.mono hb2.size)
    by_cases hlt : k < rs.length
    · obtain ⟨b1', o1, s0, s1, rfl, hc0, hc1, HS⟩ := (h.below hbw).at hlt
      obtain ⟨b2', o2, s0x, s1x, rfl, hd0, hd1, HS'⟩ := (h'.below hbw).at hlt
      obtain ⟨rfl, rfl⟩ : s0 = s0x ∧ s1 = s1x := by have := HS.out.trans HS'.out.symm; simpa using this
      have hk1 : (k : Int) < (rs.length : Int) := by omega
      have hk0 : (0 : Int) ≤ (k : Int) := by omega
      have hkw : IntKind.i64.wrap ((k : Int) + 1) = (k : Int) + 1 := wrap_i64_id _ (by omega) (by omega)
      clear HS HS'
      go_wp2_with fail
      go_quiet (fail)
      have hbq := below_drewN hbel nq
      go_wp2
      exact ⟨⟨k + 1, by omega, rfl, hbq⟩, by simp [intOf]; omega⟩
    · go_wp2
      go_ret
      exact ⟨rfl, hbw⟩
end Go.Proofs.Ytnmaknnnmjfhkad
