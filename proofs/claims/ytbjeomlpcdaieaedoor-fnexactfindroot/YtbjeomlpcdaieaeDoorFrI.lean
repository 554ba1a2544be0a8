import Derived.Test.YtbjeomlpcdaieaeDoorFrP
import Derived.Test.YtbjeomlpcdaieaeDoorRpM
import Derived.Test.YtbjeomlpcdaieaeDoorRtI
import Derived.Test.YtbjeomlpcdaieaeDoorB4
import Derived.Test.YtbjeomlpcdaieaeDoorWr
import Derived.Laws.IdiomStrings
namespace Go.Proofs.YtbjeomlpcdaieaeDoor
open Go.RowKit
set_option maxRecDepth 4000
set_option linter.unusedVariables false
set_option linter.unusedSimpArgs false
@[reducible] def rtV (x : RtT) : Value := rootV x.1 x.2.1 x.2.2.1 x.2.2.2
/-- The root whose page a text is. -/
def rrOf (s : ByteArray) (n : Int) : RtT :=
  match rpRes s n with
  | none => rtZ
  | some (_, l, m, p) => if p.size = 5 ∧ rtForm m (ptH p) (ptF p) l n = s then (m, ptH p, ptF p, l) else rtZ
theorem heap_new (w : World) (o : Obj) : (w.alloc o).heap[w.heap.size]? = some o := by
  show (w.heap.push o)[w.heap.size]? = some o
  simp
theorem frozen_new (w : World) (C : Array Value) (e : TypeId) (n i : Nat) (h : i < n) : (w.alloc (.cells C e (n, n + 1))).frozen? ⟨w.heap.size, i, none⟩ = false := by
  simp only [World.frozen?, heap_new]
  simp
  omega
theorem cell_newf (w : World) (C : Array Value) (e : TypeId) (fr : Nat × Nat) (i : Nat) : (w.alloc (.cells C e fr)).cell? ⟨w.heap.size, i, none⟩ = C[i]? := by
  simp only [World.cell?, heap_new]
  simp
theorem conv_bytes (w : World) (p : ByteArray) : ∃ cap wB, (convert 9 22 (.string p)).run Tryd.prog w = .ok (.slice (some ⟨w.heap.size, 0, none⟩) p.size cap) wB ∧ Below w.heap.size w wB ∧ wB.heap.size = w.heap.size + 1 ∧ Fm wB w.heap.size (nums p) ∧ p.size ≤ cap := by
  refine ⟨_, _, run_bytes_of_string w _ _ 5 p Tryd.underlying9 Tryd.underlying22 Tryd.underlying5, ((Below.refl _ _).drew).alloc (Nat.le_refl _) _, by simp, ⟨fun i hi => ?_, fun i hi => ?_⟩, grownCap_ge _ _ _ _⟩
  · rw [nums_length] at hi
    refine (cell_newf w.drew _ _ _ i).trans ?_
    rw [bytesRow_at p _ i hi]
    have hl : i < p.data.toList.length := hi
    simp only [List.getD_eq_getElem?_getD, nums, List.getElem?_map, List.getElem?_eq_getElem hl]
    rfl
  · rw [nums_length] at hi
    exact frozen_new w.drew _ _ _ i (by unfold bytesRow; simp; omega)
set_option maxHeartbeats 2000000 in
theorem readroot_yes (s : ByteArray) (n : Int) (w : World) (k l m : Int) (p : ByteArray) (hR : rpRes s n = some (k, l, m, p)) (HS : ∀ wx, Below w.heap.size w wx → Calls Tryd.prog 93 #[.string s, .int .i64 n] wx fun e w' => e = .returned (.tuple #[pageV k l m p, .bool true]) ∧ Below wx.heap.size wx w') (h5 : p.size = 5) : Calls Tryd.prog 86 #[.string s, .int .i64 n] w fun e w' => e = .returned (rtV (rrOf s n)) ∧ Below w.heap.size w w' := by
  have hb0 : ∀ o, Below w.heap.size w (w.alloc o) := fun o => (Below.refl _ _).alloc (Nat.le_refl _) _
  obtain ⟨_, _, hm1, hm2, hl1, hl2, hpz⟩ := rpRes_some hR
  obtain ⟨RR, HRR⟩ : ∃ RR, Hid (RR = rrOf s n) := ⟨_, hid0 rfl⟩
  obtain ⟨H, HH⟩ : ∃ H, Hid (H = ptH p) := ⟨_, hid0 rfl⟩
  obtain ⟨F, HF⟩ : ∃ F, Hid (F = ptF p) := ⟨_, hid0 rfl⟩
  obtain ⟨FM, HFM⟩ : ∃ FM, Hid (FM = rtForm m H F l n) := ⟨_, hid0 rfl⟩
  have HRO : Hid (RR = if FM = s then (m, H, F, l) else rtZ) := by
    show _ = _
    rw [HRR.out, HFM.out, HH.out, HF.out]
    unfold rrOf
    rw [hR]
    simp [h5]
  rw [← HRR.out]
  clear hR HRR
  have h5' : (p.size : Int) = 5 := by omega
  have hl5 : (nums p).length = 5 := by rw [nums_length, h5]
  have rg := nums_range' p
  have b1 := numOf_rng 1 ((nums p).take 1) (by simp; omega) (fun y hy => rg y (List.mem_of_mem_take hy))
  have b2 := numOf_rng 4 (((nums p).drop 1).take 4) (by simp; omega) (fun y hy => rg y (List.mem_of_mem_drop (List.mem_of_mem_take hy)))
  have hH0 : 0 ≤ H := by rw [HH.out]; exact b1.1
  have hH1 : H ≤ 255 := by rw [HH.out]; have := b1.2; unfold ptH; omega
  have hF0 : 0 ≤ F := by rw [HF.out]; exact b2.1
  have hF1 : F ≤ 4294967295 := by rw [HF.out]; have := b2.2; unfold ptF; omega
  have hHw : IntKind.i64.wrap H = H := by simp [IntKind.wrap, IntKind.bits, IntKind.signed]; omega
  have hFw : IntKind.i64.wrap F = F := by simp [IntKind.wrap, IntKind.bits, IntKind.signed]; omega
  obtain ⟨xs, HX⟩ : ∃ xs, Hid (xs = nums p) := ⟨_, hid0 rfl⟩
  have HRG : Hid (∀ y ∈ xs, 0 ≤ y ∧ y ≤ 255) := by rw [HX.out]; exact rg
  have HH1 : Hid (H = numOf ((xs.drop 0).take 1)) := by show _ = _; rw [HX.out, List.drop_zero]; exact HH.out
  have HF1 : Hid (F = numOf ((xs.drop 1).take 4)) := by show _ = _; rw [HX.out]; exact HF.out
  rw [← HX.out] at hl5
  clear rg b1 b2
  have HRT := fun wx => rootpage_i_any m H F l n wx
  rw [← HFM.out] at HRT
  have hCV := hid0 (fun wx => conv_bytes wx p)
  go_enter Tryd.func86, Tryd.ntmps86
  go_wp2_with (go_at_call 93; refine (HS _ (hb0 _)).mono ?_; rintro e w2 ⟨rfl, hb2⟩; have HB2 := hid0 ((B4.new w (.int .i64 0) (.int .i64 0) (.int .i64 0) (.int .i64 0) _).below hb2); have HBB := hid0 ((hb0 _).trans (hb2.mono (by simp))); clear hb2; obtain ⟨cap, wB, hcv, hbB, hszB, hfm, hcap⟩ := hCV.out (w2.alloc (.cells #[.int .i64 k, .int .i64 l, .int .i64 m, .string p] 42)); rw [h5] at hcv hcap; have hpg := (B4.new w2 (.int .i64 k) (.int .i64 l) (.int .i64 m) (.string p) 42).below hbB; have HB3 := hid0 ((HB2.out.alloc _).below hbB); have HBB3 := hid0 ((HBB.out.alloc HBB.out.size _).trans (hbB.mono (HBB.out.alloc HBB.out.size _).size)); have hBlt : w.heap.size < w2.heap.size := HB2.out.lt; clear HB2 HBB hbB; simp only [World.size_alloc] at hszB hfm hcv; rw [← HX.out] at hfm; have HFMB := hid0 hfm; clear hfm; have p1 := hpg.c1; have p2 := hpg.c2; have p3 := hpg.c3; have HPG := hid0 hpg; clear hpg)
  have hwl : w2.heap.size + 1 < wB.heap.size := by omega
  have FMA : Hid (∀ o, Fm (wB.alloc o) (w2.heap.size + 1) xs) := fun o => HFMB.out.below ((Below.refl _ _).alloc (Nat.le_refl _) _) hwl
  have hc5 : (1 : Int) ≤ (cap : Int) := by omega
  have hc1 : ¬ cap = 1 := by omega
  have HT : Hid (∀ w', Below wB.heap.size wB w' → w'.cell? ⟨w2.heap.size, 1, none⟩ = some (.int .i64 l) ∧ w'.cell? ⟨w2.heap.size, 2, none⟩ = some (.int .i64 m) ∧ Below wB.heap.size wB w') := fun w' hb => ⟨(HPG.out.below hb).c1, (HPG.out.below hb).c2, hb⟩
  refine (fun HG : Wr ?G => ?main) ⟨?pf⟩
  case main =>
    go_region_held3 (fun w' => w'.cell? ⟨w2.heap.size, 1, none⟩ = some (.int .i64 l) ∧ w'.cell? ⟨w2.heap.size, 2, none⟩ = some (.int .i64 m) ∧ Below wB.heap.size wB w')
      (first | assumption | exact HT.out _ ((Below.refl _ _).drew) | exact HT.out _ (((Below.refl _ _).drew).alloc (Nat.le_refl _) _) | exact HT.out _ (((Below.refl _ _).alloc (Nat.le_refl _) _).drew) | exact HT.out _ ((Below.refl _ _).alloc (Nat.le_refl _) _))
      (first
        | (have _g := g1; go_at_call 95; refine (take_fm (w2.heap.size + 1) xs HRG 1 4 _ (by omega) (by omega) _ (by first | exact HFMB.out.drew | exact (FMA.out _).drew) F HF1.out).mono ?_; rintro e w7 ⟨rfl, rfl⟩)
        | (go_at_call 95; refine (take_fm (w2.heap.size + 1) xs HRG 0 1 _ (by omega) (by omega) _ (by first | exact HFMB.out.drew | exact (FMA.out _).drew) H HH1.out).mono ?_; rintro e w7 ⟨rfl, rfl⟩; have g1 := True.intro))
    all_goals exact HG.out
  have hq := (B4.new wB (.int .i64 m) (.int .i64 H) (.int .i64 F) (.int .i64 l) 49).drew
  have hbs : Below wB.heap.size wB (wB.alloc (.cells #[.int .i64 m, .int .i64 H, .int .i64 F, .int .i64 l] 49)).drew := ((Below.refl _ _).alloc (Nat.le_refl _) _).drew
  obtain ⟨wq, HWQ⟩ : ∃ wq, wq = (wB.alloc (.cells #[.int .i64 m, .int .i64 H, .int .i64 F, .int .i64 l] 49)).drew := ⟨_, rfl⟩
  rw [hszB] at hq
  rw [← HWQ] at hq hbs ⊢
  have HR1 := hid0 (HB3.out.below hbs)
  have HB1 := hid0 (HBB3.out.trans (hbs.mono (by have := HBB3.out.size; omega)))
  have HQ1 := hid0 hq
  clear HWQ HT hbs HB3 HBB3 HPG HFMB FMA p1 p2 p3
  have q0 := hq.c0
  have q1 := hq.c1
  have q2 := hq.c2
  have q3 := hq.c3
  clear hq
  by_cases hFs : FM = s
  · have HRO2 : Hid (RR = (m, H, F, l)) := by show _ = _; rw [HRO.out, if_pos hFs]
    have HFS := hid0 hFs
    clear hFs
    rw [HFS.out] at HRT
    go_wp2_with (first | (go_at_call 96; refine (HRT _).mono ?_; rintro e w7 ⟨rfl, hb7⟩; have hr7 := HR1.out.below hb7; have hq7 := HQ1.out.below hb7; have HB7 := hid0 (HB1.out.trans (hb7.mono HB1.out.size)); clear hb7; have c0 := hr7.c0; have c1 := hr7.c1; have c2 := hr7.c2; have c3 := hr7.c3; have f0 := hr7.f0; have f1 := hr7.f1; have f2 := hr7.f2; have f3 := hr7.f3; have r0 := hq7.c0; have r1 := hq7.c1; have r2 := hq7.c2; have r3 := hq7.c3; clear hr7 hq7))
    refine bodyPost_ret (v := rootV m H F l) (by simp [results, Tryd.results86, go_sem, c0, c1, c2, c3]) rfl ⟨by rw [HRO2.out], ?_⟩
    exact (((HB7.out.setCell (Nat.le_refl _) _).setCell (Nat.le_refl _) _).setCell (Nat.le_refl _) _).setCell (Nat.le_refl _) _
  · have HRO2 : Hid (RR = rtZ) := by show _ = _; rw [HRO.out, if_neg hFs]
    have hG : (!FM.toList == s.toList) = true := by simp only [Bool.not_eq_true', beq_eq_false_iff_ne]; intro hh; rw [ByteArray.toList_eq, ByteArray.toList_eq] at hh; exact hFs (ByteArray.ext (Array.ext' hh))
    clear hFs
    go_wp2_with (first | (go_at_call 96; refine (HRT _).mono ?_; rintro e w7 ⟨rfl, hb7⟩; have hr7 := HR1.out.below hb7; have hq7 := HQ1.out.below hb7; have HB7 := hid0 (HB1.out.trans (hb7.mono HB1.out.size)); clear hb7; have c0 := hr7.c0; have c1 := hr7.c1; have c2 := hr7.c2; have c3 := hr7.c3; have f0 := hr7.f0; have f1 := hr7.f1; have f2 := hr7.f2; have f3 := hr7.f3; have r0 := hq7.c0; have r1 := hq7.c1; have r2 := hq7.c2; have r3 := hq7.c3; clear hr7 hq7))
    refine bodyPost_ret (v := rootV 0 0 0 0) (by simp [results, Tryd.results86, go_sem, c0, c1, c2, c3]) rfl ⟨by rw [HRO2.out]; rfl, ?_⟩
    exact (((HB7.out.setCell (Nat.le_refl _) _).setCell (Nat.le_refl _) _).setCell (Nat.le_refl _) _).setCell (Nat.le_refl _) _
end Go.Proofs.YtbjeomlpcdaieaeDoor
