import Derived.Test.YtnmaknnnmjfhkaeDoorMgXScan10
import Derived.Test.YtnmaknnnmjfhkaeDoorQxScanFill
namespace Go.Proofs.YtnmaknnnmjfhkaeDoor
open Go.RowKit
set_option maxRecDepth 4000
set_option linter.unusedVariables false
set_option linter.unusedSimpArgs false
/-- A root's box and a row of bytes behind a world: the box stands. -/
structure RI (W w : World) (c0 c1 c2 c3 : Value) : Prop where
  size : W.heap.size + 2 ≤ w.heap.size
  bel : Below W.heap.size W w
  b0 : w.cell? ⟨W.heap.size, 0, none⟩ = some c0
  b1 : w.cell? ⟨W.heap.size, 1, none⟩ = some c1
  b2 : w.cell? ⟨W.heap.size, 2, none⟩ = some c2
  b3 : w.cell? ⟨W.heap.size, 3, none⟩ = some c3
section
variable {W w w' : World} {c0 c1 c2 c3 : Value}
theorem RI.drew (h : RI W w c0 c1 c2 c3) : RI W w.drew c0 c1 c2 c3 := ⟨h.size, h.bel.drew, h.b0, h.b1, h.b2, h.b3⟩
theorem RI.past (h : RI W w c0 c1 c2 c3) (hb : Below (W.heap.size + 1) w w') : RI W w' c0 c1 c2 c3 :=
  have hs := h.size
  ⟨Nat.le_trans hs hb.size, h.bel.trans (hb.mono (by omega)), (hb.cell (p := ⟨_, 0, none⟩) (by show W.heap.size < _; omega)).trans h.b0, (hb.cell (p := ⟨_, 1, none⟩) (by show W.heap.size < _; omega)).trans h.b1,
    (hb.cell (p := ⟨_, 2, none⟩) (by show W.heap.size < _; omega)).trans h.b2, (hb.cell (p := ⟨_, 3, none⟩) (by show W.heap.size < _; omega)).trans h.b3⟩
theorem RI.below (h : RI W w c0 c1 c2 c3) (hb : Below w.heap.size w w') : RI W w' c0 c1 c2 c3 := h.past (hb.mono (by have := h.size; omega))
theorem RI.wrote {o : Nat} {ys : List Int} (h : RI W w c0 c1 c2 c3) (hw : Wrote w w' (W.heap.size + 1) o ys) : RI W w' c0 c1 c2 c3 := h.past (hw.below (Nat.le_refl _))
theorem RI.toS (h : RI W w c0 c1 c2 c3) : w.cell? ⟨W.heap.size, 0, none⟩ = some c0 ∧ w.cell? ⟨W.heap.size, 1, none⟩ = some c1 ∧ w.cell? ⟨W.heap.size, 2, none⟩ = some c2 ∧ w.cell? ⟨W.heap.size, 3, none⟩ = some c3 ∧ RI W w c0 c1 c2 c3 := ⟨h.b0, h.b1, h.b2, h.b3, h⟩
theorem RI.ofS (h : w.cell? ⟨W.heap.size, 0, none⟩ = some c0 ∧ w.cell? ⟨W.heap.size, 1, none⟩ = some c1 ∧ w.cell? ⟨W.heap.size, 2, none⟩ = some c2 ∧ w.cell? ⟨W.heap.size, 3, none⟩ = some c3 ∧ RI W w c0 c1 c2 c3) : RI W w c0 c1 c2 c3 := h.2.2.2.2
end
theorem wp_start5 {P : Program} {c : Code} {Q : Exit → Act → World → Prop} {a : Act} (w : World) (c0 c1 c2 c3 : Value) (t1 t2 : TypeId)
    (h : ∀ wa, RI w wa c0 c1 c2 c3 → Fm wa (w.heap.size + 1) [0, 0, 0, 0, 0] → c.wp P Q a wa) :
    c.wp P Q a ((w.alloc (.cells #[c0, c1, c2, c3] t1)).alloc (.cells #[.int .u8 0, .int .u8 0, .int .u8 0, .int .u8 0, .int .u8 0] t2)) := by
  refine h _ ⟨by simp, ((Below.refl _ _).alloc (Nat.le_refl _) _).alloc (by simp) _, by simp, by simp, by simp, by simp⟩ ⟨fun i hi => ?_, fun i hi => ?_⟩
  · rw [World.cell?_alloc_at _ _ _ _ (by simp)]
    have hi' : i < 5 := hi
    have : i = 0 ∨ i = 1 ∨ i = 2 ∨ i = 3 ∨ i = 4 := by omega
    rcases this with h | h | h | h | h <;> subst h <;> rfl
  · rw [frozen?_alloc_cells, frozen?_alloc_cells]
    exact frozen_past _ _ _ (by omega)
theorem rt_list (h f : Int) {xs1 xs2 : List Int} (h1 : xs1 = spl [0, 0, 0, 0, 0] 0 (be 1 h)) (h2 : xs2 = spl xs1 1 (be 4 f)) : strOfNums xs2 = rtPart h f := by
  have a1 : (be 1 h).length = 1 := be_length _ _
  have a2 : (be 4 f).length = 4 := be_length _ _
  unfold rtPart
  rw [← strOfNums_append]
  subst h1 h2
  congr 1
theorem rootpage_i_no (t h f l n : Int) (w : World) (hno : ¬ rtOk h f) : Calls Tryd.prog 96 #[rootV t h f l, .int .i64 n] w fun e w' => e = .returned (.string ByteArray.empty) ∧ Below w.heap.size w w' := by
  have hb0 : ∀ o, Below w.heap.size w (w.alloc o) := fun o => (Below.refl _ _).alloc (Nat.le_refl _) _
  unfold rtOk at hno
  by_cases d1 : 0 ≤ h ∧ h ≤ 1
  · have d1' : decide (0 ≤ h ∧ h ≤ 1) = true := decide_eq_true d1
    have d2' : decide (1 ≤ f ∧ f ≤ 999999000) = false := by simp; omega
    clear hno d1
    go_enter Tryd.func96, Tryd.ntmps96
    go_wp2_with (first | (go_at_call 100; refine (half_i _ _).mono ?_; rw [d1']; rintro e w1 ⟨rfl, rfl⟩) | (go_at_call 101; refine (first_i _ _).mono ?_; rw [d2']; rintro e w2 ⟨rfl, rfl⟩))
    go_ret
    exact ⟨rfl, hb0 _⟩
  · have d1' : decide (0 ≤ h ∧ h ≤ 1) = false := decide_eq_false d1
    clear hno d1
    go_enter Tryd.func96, Tryd.ntmps96
    go_wp2_with (first | (go_at_call 100; refine (half_i _ _).mono ?_; rw [d1']; rintro e w1 ⟨rfl, rfl⟩))
    go_ret
    exact ⟨rfl, hb0 _⟩
set_option maxRecDepth 4000 in
set_option maxHeartbeats 1000000 in
theorem rootpage_i_ok (t h f l n : Int) (w : World) (hok : rtOk h f) : Calls Tryd.prog 96 #[rootV t h f l, .int .i64 n] w fun e w' => e = .returned (.string (formOf 4 l t (rtPart h f) n)) ∧ Below w.heap.size w w' := by
  obtain ⟨h1, h2, h3, h4⟩ := hok
  have d1 : decide (0 ≤ h ∧ h ≤ 1) = true := by simp; omega
  have d2 : decide (1 ≤ f ∧ f ≤ 999999000) = true := by simp; omega
  have u1 : IntKind.u64.wrap h = h := wrap_u64_id h (by omega) (by omega)
  have u2 : IntKind.u64.wrap f = f := wrap_u64_id f (by omega) (by omega)
  obtain ⟨pt, HPT⟩ : ∃ pt, Hid (pt = rtPart h f) := ⟨_, hide rfl⟩
  rw [← HPT.out]
  go_enter Tryd.func96, Tryd.ntmps96
  go_wp2_with (first | (go_at_call 100; refine (half_i _ _).mono ?_; rw [d1]; rintro e w1 ⟨rfl, rfl⟩) | (go_at_call 101; refine (first_i _ _).mono ?_; rw [d2]; rintro e w2 ⟨rfl, rfl⟩))
  refine wp_start5 w (.int .i64 t) (.int .i64 h) (.int .i64 f) (.int .i64 l) _ _ ?_
  intro wa hpi0 hfm0
  have HS0 := hide hpi0.toS
  clear hpi0
  go_region_held3 (fun w' => w'.cell? ⟨w.heap.size, 0, none⟩ = some (.int .i64 t) ∧ w'.cell? ⟨w.heap.size, 1, none⟩ = some (.int .i64 h) ∧ w'.cell? ⟨w.heap.size, 2, none⟩ = some (.int .i64 f) ∧ w'.cell? ⟨w.heap.size, 3, none⟩ = some (.int .i64 l) ∧ RI w w' (.int .i64 t) (.int .i64 h) (.int .i64 f) (.int .i64 l))
    (first | assumption | exact (RI.ofS HS0.out).drew.toS | exact (RI.wrote (RI.ofS (by assumption)) (by assumption)).toS)
    (first | (go_at_call 79; refine (put_any (w.heap.size + 1) 0 1 5 h _ (by omega) (by omega) (by omega) (fun i hi => ⟨_, hfm0.drew.cell (0 + i) (by simp; omega)⟩) (fun i hi => hfm0.drew.froz (0 + i) (by simp; omega))).mono ?_; rintro e wb ⟨rfl, hw0⟩))
  have hpi1 : RI w wb (.int .i64 t) (.int .i64 h) (.int .i64 f) (.int .i64 l) := RI.ofS (by assumption)
  have hfm1 := hfm0.drew.wrote hw0 (by rw [be_length]; simp)
  obtain ⟨xs1, HX1⟩ : ∃ xs1, Hid (xs1 = spl [0, 0, 0, 0, 0] 0 (be 1 h)) := ⟨_, hide rfl⟩
  have hl1 : xs1.length = 5 := by rw [HX1.out, spl_length _ _ _ (by rw [be_length]; simp)]; rfl
  rw [← HX1.out] at hfm1
  clear HS0 hw0 hfm0
  go_wp2_with fail
  have HS1 := hide hpi1.toS
  clear hpi1
  go_region_held3 (fun w' => w'.cell? ⟨w.heap.size, 0, none⟩ = some (.int .i64 t) ∧ w'.cell? ⟨w.heap.size, 1, none⟩ = some (.int .i64 h) ∧ w'.cell? ⟨w.heap.size, 2, none⟩ = some (.int .i64 f) ∧ w'.cell? ⟨w.heap.size, 3, none⟩ = some (.int .i64 l) ∧ RI w w' (.int .i64 t) (.int .i64 h) (.int .i64 f) (.int .i64 l))
    (first | assumption | exact (RI.ofS HS1.out).drew.toS | exact (RI.wrote (RI.ofS (by assumption)) (by assumption)).toS)
    (first | (go_at_call 79; refine (put_any (w.heap.size + 1) 1 4 4 f _ (by omega) (by omega) (by omega) (fun i hi => ⟨_, hfm1.drew.cell (1 + i) (by rw [hl1]; omega)⟩) (fun i hi => hfm1.drew.froz (1 + i) (by rw [hl1]; omega))).mono ?_; rintro e wc ⟨rfl, hw1⟩))
  have hpi2 : RI w wc (.int .i64 t) (.int .i64 h) (.int .i64 f) (.int .i64 l) := RI.ofS (by assumption)
  have hfm2 := hfm1.drew.wrote hw1 (by rw [be_length, hl1]; omega)
  obtain ⟨xs2, HX2⟩ : ∃ xs2, Hid (xs2 = spl xs1 1 (be 4 f)) := ⟨_, hide rfl⟩
  have hl2 : xs2.length = 5 := by rw [HX2.out, spl_length _ _ _ (by rw [be_length, hl1]; omega), hl1]
  rw [← HX2.out] at hfm2
  have hPt : strOfNums xs2 = rtPart h f := rt_list h f HX1.out HX2.out
  rw [← HPT.out] at hPt
  have hpz : pt.size ≤ 1048576 := by rw [← hPt, strOfNums_size, hl2]; omega
  have hcv : ∀ wx, Fm wx (w.heap.size + 1) xs2 → (convert 22 9 (.slice (some ⟨w.heap.size + 1, 0, none⟩) 5 5)).run Tryd.prog wx = .ok (.string pt) wx := fun wx hf => by
    have := hf.text (P := Tryd.prog) 22 5 9 Tryd.underlying22 Tryd.underlying5 Tryd.underlying9 0 5 5 (by omega)
    rw [List.drop_zero, List.take_of_length_le (by omega), hPt] at this
    exact this
  have HCV := hide hcv
  have HFM := hide hfm2
  clear HS1 hw1 hfm1 hfm2 hcv
  go_wp2_with fail
  have HS2 := hide hpi2.toS
  clear hpi2
  have hFl : w.heap.size + 1 < wc.heap.size := by have := (RI.ofS HS2.out).size; omega
  go_region_held3 (fun w' => (convert 22 9 (.slice (some ⟨w.heap.size + 1, 0, none⟩) 5 5)).run Tryd.prog w' = .ok (.string pt) w' ∧ w'.cell? ⟨w.heap.size, 0, none⟩ = some (.int .i64 t) ∧ w'.cell? ⟨w.heap.size, 3, none⟩ = some (.int .i64 l) ∧ RI w w' (.int .i64 t) (.int .i64 h) (.int .i64 f) (.int .i64 l))
    (first | assumption | exact ⟨HCV.out _ HFM.out.drew, (RI.ofS HS2.out).drew.b0, (RI.ofS HS2.out).drew.b3, (RI.ofS HS2.out).drew⟩ | exact ⟨HCV.out _ (HFM.out.drew.below hb4 hFl), ((RI.ofS HS2.out).drew.below hb4).b0, ((RI.ofS HS2.out).drew.below hb4).b3, (RI.ofS HS2.out).drew.below hb4⟩)
    (first | (go_at_call 15; refine (form_i_any 4 l t pt n _ hpz).mono ?_; rintro e w4 ⟨rfl, hb4⟩))
  rename_i hSl
  have hbl := hSl.2.2.2.bel
  clear hSl
  go_wp2
  go_ret
  exact ⟨rfl, hbl⟩
theorem rootpage_i_any (t h f l n : Int) (w : World) : Calls Tryd.prog 96 #[rootV t h f l, .int .i64 n] w fun e w' => e = .returned (.string (rtForm t h f l n)) ∧ Below w.heap.size w w' := by
  unfold rtForm
  by_cases hok : rtOk h f
  · rw [if_pos hok]; exact rootpage_i_ok t h f l n w hok
  · rw [if_neg hok]; exact rootpage_i_no t h f l n w hok
end Go.Proofs.YtnmaknnnmjfhkaeDoor
