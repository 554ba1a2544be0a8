import Derived.Test.YtnmaknnnmjfhkaeDoorPrG43
namespace Go.Proofs.YtnmaknnnmjfhkaeDoor
open Go.RowKit
set_option maxRecDepth 4000
set_option linter.unusedVariables false
set_option linter.unusedSimpArgs false
structure RB (W w : World) : Prop where
  size : W.heap.size + 1 ≤ w.heap.size
  bel : Below W.heap.size W w
  c0 : w.cell? ⟨W.heap.size, 0, none⟩ = some (.int .i64 0)
  c1 : w.cell? ⟨W.heap.size, 1, none⟩ = some (.int .i64 0)
  c2 : w.cell? ⟨W.heap.size, 2, none⟩ = some (.int .i64 0)
  c3 : w.cell? ⟨W.heap.size, 3, none⟩ = some (.string ⟨#[]⟩)
  f0 : w.frozen? ⟨W.heap.size, 0, none⟩ = false
  f1 : w.frozen? ⟨W.heap.size, 1, none⟩ = false
  f2 : w.frozen? ⟨W.heap.size, 2, none⟩ = false
  f3 : w.frozen? ⟨W.heap.size, 3, none⟩ = false
theorem RB.below {W w w' : World} (h : RB W w) (hb : Below w.heap.size w w') : RB W w' := by
  have hs := h.size
  have hc : ∀ i, w'.cell? ⟨W.heap.size, i, none⟩ = w.cell? ⟨W.heap.size, i, none⟩ := fun i => hb.cell (p := ⟨W.heap.size, i, none⟩) (by show W.heap.size < _; omega)
  have hf : ∀ i, w'.frozen? ⟨W.heap.size, i, none⟩ = w.frozen? ⟨W.heap.size, i, none⟩ := fun i => hb.frozen (p := ⟨W.heap.size, i, none⟩) (by show W.heap.size < _; omega)
  exact ⟨Nat.le_trans hs hb.size, h.bel.trans (hb.mono (by omega)), (hc _).trans h.c0, (hc _).trans h.c1, (hc _).trans h.c2, (hc _).trans h.c3, (hf _).trans h.f0, (hf _).trans h.f1, (hf _).trans h.f2, (hf _).trans h.f3⟩
theorem RB.drew {W w : World} (h : RB W w) : RB W w.drew := ⟨h.size, h.bel.drew, h.c0, h.c1, h.c2, h.c3, h.f0, h.f1, h.f2, h.f3⟩
theorem RB.alloc {W w : World} (h : RB W w) (o : Obj) : RB W (w.alloc o) := h.below ((Below.refl _ _).alloc (Nat.le_refl _) _)
theorem RB.new (W : World) (t : TypeId) : RB W (W.alloc (.cells #[.int .i64 0, .int .i64 0, .int .i64 0, .string ⟨#[]⟩] t)) := by
  refine ⟨by simp, (Below.refl _ _).alloc (Nat.le_refl _) _, ?_, ?_, ?_, ?_, ?_, ?_, ?_, ?_⟩ <;> first | (simp; done) | (rw [frozen?_alloc_cells]; exact frozen_past _ _ _ (Nat.le_refl _))
theorem nopage_b (s : ByteArray) (ty : TypeId) (v : Value) (w : World) (hv : w.cell? ⟨1, 0, none⟩ = some (.iface ty v)) : Calls Tryd.prog 102 #[.string s] w fun e w' => (∃ E, e = .returned (.iface 157 (.pointer (some E)))) ∧ Below w.heap.size w w' :=
  (nopage_i s ty v w hv).mono fun e w' h => ⟨⟨_, h.1⟩, by rw [h.2]; exact (Below.refl _ _).alloc (Nat.le_refl _) _⟩
set_option maxRecDepth 4000 in
set_option maxHeartbeats 4000000 in
theorem parse_no_part (s : ByteArray) (n N : Nat) (w : World) (ty : TypeId) (v : Value) (hv : w.cell? ⟨1, 0, none⟩ = some (.iface ty v)) (hg : 1 < w.heap.size) (hs : s.size = 64) (h1 : 1 ≤ n) (h2 : n ≤ 8) (hN : (N : Int) = numOf (((nums s).drop (n + 7)).take 1)) (hN1 : 56 < N + n) (hN2 : N ≤ 255) : Calls Tryd.prog 98 #[.string s, .int .i64 (n : Int)] w fun e w' => (∃ E, e = .returned (prV E none)) ∧ Below w.heap.size w w' := by
  have hd : decide (1 ≤ (n : Int) ∧ (n : Int) ≤ 8) = true := by simp; omega
  have hs' : (s.size : Int) = 64 := by omega
  have hb0 : ∀ o, Below w.heap.size w (w.alloc o) := fun o => (Below.refl _ _).alloc (Nat.le_refl _) _
  have hva : ∀ w', Below w.heap.size w w' → w'.cell? ⟨1, 0, none⟩ = some (.iface ty v) := fun w' hb => (hb.cell (p := ⟨1, 0, none⟩) hg).trans hv
  obtain ⟨xs, HX⟩ : ∃ xs, Hid (xs = nums s) := ⟨_, hid0 rfl⟩
  have hln : xs.length = 64 := by rw [HX.out, nums_length]; exact hs
  have hsz : (xs.map (Value.int .u8)).toArray.size = 64 := by simp [hln]
  have HRG : Hid (∀ y ∈ xs, 0 ≤ y ∧ y ≤ 255) := by rw [HX.out]; exact nums_range' s
  have HS := hid0 hs
  clear hs
  have hsl := fun g wx => slice_arr_from (P := Tryd.prog) (t := 98) Tryd.underlying98 (fun _ => by kernel_rfl) g 0 n (by omega) .i64 (n : Int) rfl wx
  obtain ⟨q, hq⟩ : ∃ q, 64 - n = q := ⟨_, rfl⟩
  rw [hq] at hsl
  have hq8 : (8 : Int) ≤ (q : Int) := by omega
  have hq7 : (7 : Int) ≤ (q : Int) := by omega
  have HN : Hid ((N : Int) = numOf ((xs.drop (n + 7)).take 1)) := by rw [HX.out]; exact hid0 hN
  clear hN
  have hnn : (64 - (n : Int) - 8) < (N : Int) := by omega
  go_enter Tryd.func98, Tryd.ntmps98
  go_wp2_with (first | (go_at_call 37; refine (width_i _ _).mono ?_; rw [hd]; rintro e w2 ⟨rfl, rfl⟩) | (go_at_call 33; refine (part_i _ _ (by omega) (by omega)).mono ?_; rintro e w3 ⟨rfl, rfl⟩) | (go_at_call 74; refine (sec_i s _ HS.out).mono ?_; rw [← HX.out]; rintro e w2 ⟨rfl, hb2⟩; have HB2 := hid0 ((RB.new w _).below hb2); clear hb2) | (refine wpList_store_new rfl 98 _ _ rfl xs rfl rfl _ _ (.int .u8 0) (by rw [hln]; rfl) (by rw [hln]; kernel_rfl) ?_; intro wx hfm hbx hsx; have HFM := hid0 hfm; clear hfm; have HBX := hid0 (HB2.out.below hbx); clear hbx hsx) | (go_at_call 95; refine (take_fm w2.heap.size xs HRG (n + 7) 1 _ (by omega) (by omega) _ HFM.out (N : Int) HN.out).mono ?_; rintro e w3 ⟨rfl, rfl⟩) | (go_at_call 102; refine (nopage_b _ ty v _ (hva _ HBX.out.bel)).mono ?_; rintro e w4 ⟨⟨E, rfl⟩, hb4⟩; have hr4 := HBX.out.below hb4; clear hb4; have c0 := hr4.c0; have c1 := hr4.c1; have c2 := hr4.c2; have c3 := hr4.c3; have f0 := hr4.f0; have f1 := hr4.f1; have f2 := hr4.f2; have f3 := hr4.f3; have HR4 := hid0 hr4; clear hr4))
  refine bodyPost_ret (v := .tuple #[pageV 0 0 0 ⟨#[]⟩, .iface 157 (.pointer (some E))]) (by simp [results, Tryd.results98, go_sem, c0, c1, c2, c3]) rfl ⟨⟨E, rfl⟩, ?_⟩
  exact (((HR4.out.bel.setCell (Nat.le_refl _) _).setCell (Nat.le_refl _) _).setCell (Nat.le_refl _) _).setCell (Nat.le_refl _) _
end Go.Proofs.YtnmaknnnmjfhkaeDoor
