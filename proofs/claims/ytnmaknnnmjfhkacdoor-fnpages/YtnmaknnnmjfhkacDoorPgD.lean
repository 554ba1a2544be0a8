import Derived.Test.YtnmaknnnmjfhkacDoorPgF
import Derived.Test.YtnmaknnnmjfhkacDoorPgB
import Derived.Test.YtnmaknnnmjfhkacDoorPage3
import Derived.Test.YtnmaknnnmjfhkacDoorSum
import Derived.Test.YtnmaknnnmjfhkacDoorCvb
namespace Go.Proofs.YtnmaknnnmjfhkacDoor
open Go.RowKit
set_option maxRecDepth 8000
set_option linter.unusedVariables false
set_option linter.unusedSimpArgs false

theorem formOf_size (k l m : Int) (p : ByteArray) (n : Int) : (formOf k l m p n).size ≤ 64 := by
  unfold formOf
  split
  · rename_i h
    have hd := of_decide_eq_true (by unfold pageOk at h; exact h)
    rw [pageForm_size _ _ _ _ _ (by omega)]
    exact Nat.le_refl _
  · exact Nat.zero_le _
theorem Fm.set {w : World} {F : Nat} {xs : List Int} (h : Fm w F xs) (k : Nat) (hk : k < xs.length) (y : Int) : Fm (w.setCell ⟨F, k, none⟩ (.int .u8 y)) F (xs.set k y) := by
  refine ⟨fun i hi => ?_, fun i hi => ?_⟩
  · rw [List.length_set] at hi
    by_cases e : i = k
    · subst e
      have := World.cell?_setCell_same w ⟨F, i, none⟩ (.int .u8 y) (h.cell i hi)
      rw [this]
      simp [List.getD, hi]
    · refine (World.cell?_setCell_other w ⟨F, k, none⟩ ⟨F, i, none⟩ _ (fun e' => e (congrArg Addr.off e').symm)).trans ?_
      rw [h.cell i hi]
      simp [List.getD, List.getElem?_set_ne (Ne.symm e)]
  · rw [List.length_set] at hi
    rw [World.frozen?_setCell]
    exact h.froz i hi
theorem Fm.grown {w w' : World} {F : Nat} {xs : List Int} {r : Option Nat} (h : Fm w F xs) (hF : F < w.heap.size) (hg : w.grownBy w' r) (hn : some F ≠ r) : Fm w' F xs :=
  ⟨fun i hi => (World.cell?_of_block (a := ⟨F, i, none⟩) (hg.block F hF hn)).trans (h.cell i hi), fun i hi => by
    have e := hg.block F hF hn
    have : w'.frozen? ⟨F, i, none⟩ = w.frozen? ⟨F, i, none⟩ := by simp only [World.frozen?, e]
    rw [this]
    exact h.froz i hi⟩
set_option maxHeartbeats 16000000 in
theorem drp_r (a : Option Addr) (n c : Nat) (w : World) (h : Bys w a n) (hn : n ≤ 1048576) (hc : n ≤ c) :
    Calls Tryd.prog 12 #[.slice a n c] w fun e w' => (∃ t wd, e = .returned (.tuple #[.string t, .int .i64 wd]) ∧ t.size ≤ 1000) ∧ Below w.heap.size w w' := by
  go_enter Tryd.func12, Tryd.ntmps12
  go_wp2_with fail
  refine (open_r2 a n c _ h hn hc).mono ?_
  rintro e w1 ⟨rfl, ⟨n', c', hnn, hr1⟩, hb1⟩
  have hgb : ∀ g o, a = some ⟨g, o, none⟩ → 0 < n → g < w.heap.size := fun g o ha h0 => by
    obtain ⟨g', o', ha', hx⟩ := h
    have e := ha'.resolve_left (by omega)
    rw [ha] at e
    injection e with e
    injection e with e1 e2
    subst e1
    exact (hx 0 h0).1
  have hBy1 := h.below hb1
  have lR1 := lt_of_cell hr1.pc
  go_wp2_with fail
  refine (dfp_r a n c _ hBy1 hn hc).mono ?_
  rintro e w2 ⟨⟨k, l, m, t, wd, rfl, ht⟩, hb2⟩
  have be2 := hb1.trans (hb2.mono hb1.size)
  have hr2 := hr1.below hb2
  clear hr1 hb2 hb1 hBy1 lR1
  have hr3 := hr2.below (below_nw w2 (.cells #[.int .i64 k, .int .i64 l, .int .i64 m, .string t] 23))
  have be3 := be2.trans ((below_nw w2 (.cells #[.int .i64 k, .int .i64 l, .int .i64 m, .string t] 23)).mono be2.size)
  go_wp2_with fail
  refine (form_s_any k l m t wd _ (by omega)).mono ?_
  rintro e w4 ⟨rfl, hb4⟩
  have hr4 := hr3.below hb4
  have be4 := be3.trans (hb4.mono be3.size)
  have hFs := formOf_size k l m t wd
  obtain ⟨F, e_F⟩ : ∃ F, F = formOf k l m t wd := ⟨_, rfl⟩
  rw [← e_F] at hFs ⊢
  have HGA : Hid (∀ g o, a = some ⟨g, o, none⟩ → 0 < n' → g < w.heap.size) := fun g o ea e0 => hgb g o ea (by omega)
  clear e_F hb4 hr3 be3 hr2 be2 h hgb
  go_wp2_with fail
  refine (pick_r w.heap.size a n' c' 0 2 _ hr4 (by omega)).mono ?_
  rintro e w5 ⟨⟨v, rfl, v0, v1⟩, hr5, hg5⟩
  have be5 := be4.trans (grown_below hg5 be4.size (fun g e => by cases e; omega))
  clear hg5 hr4 be4
  have hv : v = 0 ∨ v = 1 := by omega
  clear v0 v1
  rcases hv with rfl | rfl
  · go_wp2_with fail
    refine (bend_r w.heap.size a n' c' (0 + 1) F _ hr5 (by omega) (by omega)).mono ?_
    rintro e w6 ⟨⟨s, rfl, hs⟩, ⟨q, q0, q1, hr6⟩, hg6⟩
    have be6 := be5.trans (grown_below hg6 be5.size (fun g e => by cases e; omega))
    have hs' : s.size ≤ 200 := by omega
    have hq : q ≤ 100 := by omega
    clear hg6 hr5 be5 hs hFs
    have q00 : 0 ≤ q := by omega
    go_wp2_with fail
    refine (pick_r w.heap.size a n' c' (q) 6 _ hr6 (by omega)).mono ?_
    rintro e w7 ⟨⟨v, rfl, v0, v1⟩, hr7, hg7⟩
    have be7 := be6.trans (grown_below hg7 be6.size (fun g e => by cases e; omega))
    clear hg7
    by_cases hv : v = 0
    · subst hv
      by_cases hwd : 1 ≤ wd ∧ wd ≤ 8
      · have hd : decide (1 ≤ wd ∧ wd ≤ 8) = true := decide_eq_true hwd
        by_cases hsz : (s.size : Int) = 64
        · obtain ⟨wn, rfl⟩ : ∃ k : Nat, wd = (k : Int) := ⟨wd.toNat, by omega⟩
          have hw1 : 1 ≤ wn := by omega
          have hw2 : wn ≤ 8 := by omega
          have hws : (wn : Int) ≤ (s.size : Int) := by omega
          obtain ⟨cap, wB, hcv, hbB, hszB, hfm, hcap⟩ := conv_bytes w7 (s.extract wn s.size)
          have hN : (s.extract wn s.size).size = s.size - wn := by simp only [ByteArray.size_extract]; omega
          have hxl : (nums (s.extract wn s.size)).length = s.size - wn := by rw [nums_length, hN]
          obtain ⟨N, hNN⟩ : ∃ N : Nat, N = s.size - wn := ⟨_, rfl⟩
          rw [hN, ← hNN] at hcv hcap
          rw [← hNN] at hxl
          obtain ⟨xs, e_xs⟩ : ∃ xs, xs = nums (s.extract wn s.size) := ⟨_, rfl⟩
          rw [← e_xs] at hfm hxl
          clear e_xs hN
          have hN1 : N ≤ 64 := by omega
          have hN0 : 0 < N := by omega
          have HFM := hid hfm
          clear hfm
          have hrB := hr7.below hbB
          have beB := be7.trans (hbB.mono be7.size)
          have hgB : w.heap.size < w7.heap.size := lt_of_cell hr7.pc
          have HNN := hid hNN
          clear hNN
          go_wp2_with (first | (go_at_call 13; refine (width_s _ _).mono ?_; rw [hd]; rintro e wz ⟨rfl, hwz⟩; rw [hwz]; clear hwz wz))
          refine (pick_r w.heap.size a n' c' (q + 1) (N : Int) _ hrB (by omega)).mono ?_
          rintro e w8 ⟨⟨x', rfl, x0, x1⟩, hr8, hg8⟩
          have be8 := beB.trans (grown_below hg8 beB.size (fun g e => by cases e; omega))
          obtain ⟨x, rfl⟩ : ∃ k : Nat, x' = (k : Int) := ⟨x'.toNat, by omega⟩
          have hxN : x < N := by omega
          have hxNi : (x : Int) < (N : Int) := by omega
          clear x0 x1
          have HF8 := hid (HFM.out.grown (by omega) hg8 (fun e => by injection e with e; omega))
          have hs8 : w7.heap.size < w8.heap.size := by have := hg8.size; omega
          obtain ⟨G, e_G⟩ : ∃ G, G = w7.heap.size := ⟨_, rfl⟩
          rw [← e_G] at HF8 hs8 hgB ⊢
          clear hcv hg8 hbB hrB beB HFM hszB e_G
          obtain ⟨X, hX⟩ : ∃ X, xs.getD x 0 = X := ⟨_, rfl⟩
          have cx : w8.cell? ⟨G, x, none⟩ = some (.int .u8 X) := by have := HF8.out.cell x (by omega); rwa [hX] at this
          clear hX
          go_wp2_with fail
          refine wp_region_held_drew (S := fun w' => True) (by kernel_rfl) (trivial) (fun hHeld => ?_)
          refine wpAnyH_take (i := 0) (v := .slice (some ⟨G, 0, none⟩) N cap) rfl (by kernel_rfl) (by kernel_rfl) (by kernel_rfl) (fun _ _ _ h => h) (Or.inl ⟨by rfl, fun w hw => by obtain z0 := hw; go_simp⟩) hHeld ?_
          simp only [Act.put, List.getElem_toArray, List.getElem_cons_zero, List.getElem_cons_succ, List.setIfInBounds_toArray, List.set_cons_zero, List.set_cons_succ]
          refine wpAnyH_take (i := 1) (v := .int .i64 (x : Int)) rfl (by kernel_rfl) (by kernel_rfl) (by kernel_rfl) (fun _ _ _ h => h) (Or.inl ⟨by rfl, fun w hw => by obtain z0 := hw; go_simp⟩) hHeld ?_
          simp only [Act.put, List.getElem_toArray, List.getElem_cons_zero, List.getElem_cons_succ, List.setIfInBounds_toArray, List.set_cons_zero, List.set_cons_succ]
          refine wpAnyH_take (i := 2) (v := .slice (some ⟨G, 0, none⟩) N cap) rfl (by kernel_rfl) (by kernel_rfl) (by kernel_rfl) (fun _ _ _ h => h) (Or.inl ⟨by rfl, fun w hw => by obtain z0 := hw; go_simp⟩) hHeld ?_
          simp only [Act.put, List.getElem_toArray, List.getElem_cons_zero, List.getElem_cons_succ, List.setIfInBounds_toArray, List.set_cons_zero, List.set_cons_succ]
          refine wpAnyH_take (i := 3) (v := .int .i64 (x : Int)) rfl (by kernel_rfl) (by kernel_rfl) (by kernel_rfl) (fun _ _ _ h => h) (Or.inl ⟨by rfl, fun w hw => by obtain z0 := hw; go_simp⟩) hHeld ?_
          simp only [Act.put, List.getElem_toArray, List.getElem_cons_zero, List.getElem_cons_succ, List.setIfInBounds_toArray, List.set_cons_zero, List.set_cons_succ]
          refine wpAnyH_take (i := 4) (v := .pointer (some ⟨G, x, none⟩)) rfl (by kernel_rfl) (by kernel_rfl) (by kernel_rfl) (fun _ _ _ h => h) (Or.inl ⟨by rfl, fun w hw => by obtain z0 := hw; go_simp⟩) hHeld ?_
          simp only [Act.put, List.getElem_toArray, List.getElem_cons_zero, List.getElem_cons_succ, List.setIfInBounds_toArray, List.set_cons_zero, List.set_cons_succ]
          refine wpAnyH_take (i := 6) (v := .pointer (some ⟨w.heap.size, 0, none⟩)) rfl (by kernel_rfl) (by kernel_rfl) (by kernel_rfl) (fun _ _ _ h => h) (Or.inl ⟨by rfl, fun w hw => by obtain z0 := hw; go_simp⟩) hHeld ?_
          simp only [Act.put, List.getElem_toArray, List.getElem_cons_zero, List.getElem_cons_succ, List.setIfInBounds_toArray, List.set_cons_zero, List.set_cons_succ]
          refine wpAnyH_ready (rs := [5, 7]) (by kernel_rfl) (by simp) ?_
          refine AllReadyH.cons rfl (fun K hK => ?_) (AllReadyH.cons rfl (fun K hK => ?_) AllReadyH.nil)
          · go_simp
            refine hK.out _ _ hHeld (fun _ => ?_)
            clear hK K
            try simp only [Act.put, List.getElem_toArray, List.getElem_cons_zero, List.getElem_cons_succ, List.setIfInBounds_toArray, List.set_cons_zero, List.set_cons_succ]
            refine wpAnyH_ready (rs := [7]) (by kernel_rfl) (by simp) ?_
            refine AllReadyH.cons rfl (fun K hK => ?_) AllReadyH.nil
            refine step_call (by rfl) 21 #[.pointer (some ⟨w.heap.size, 0, none⟩), .int .i64 3] (by go_simp) (pick_r w.heap.size a n' c' (q + 1 + 1) 3 _ hr8.drew (by omega)) ?_
            rintro e w9 ⟨⟨y', rfl, y0, y1⟩, hr9, hg9⟩
            refine ⟨_, rfl, ?_⟩
            obtain ⟨y, rfl⟩ : ∃ k : Nat, y' = (k : Int) := ⟨y'.toNat, by omega⟩
            have hy3 : y < 3 := by omega
            clear y0 y1
            have be9 := (be8.trans ((Below.refl _ _).drew.mono be8.size)).trans (grown_below hg9 be8.size (fun g e => by cases e; omega))
            have HF9 := hid (HF8.out.drew.grown (by exact hs8) hg9 (fun e => by injection e with e; omega))
            have hs9 : G < w9.heap.size := Nat.lt_of_lt_of_le hs8 hg9.size
            have hX9 : xs.getD x 0 = X := by have h1 := HF8.out.cell x (by omega); rw [cx] at h1; injection h1 with h1; injection h1 with _ h1; exact h1.symm
            have hyw : IntKind.i64.wrap (1 + (y : Int)) = 1 + (y : Int) := wrap_i64_id _ (by omega) (by omega)
            have hyu : IntKind.u8.wrap (1 + (y : Int)) = 1 + (y : Int) := by simp [IntKind.wrap, IntKind.bits, IntKind.signed]; omega
            obtain ⟨Y, hY⟩ : ∃ Y, bits .xor .u8 X (1 + (y : Int)) = Y := ⟨_, rfl⟩
            have HX9 := hid hX9
            refine hK.out _ _ hHeld (fun _ => ?_)
            clear hK K
            try simp only [Act.put, List.getElem_toArray, List.getElem_cons_zero, List.getElem_cons_succ, List.setIfInBounds_toArray, List.set_cons_zero, List.set_cons_succ]
            refine wpAnyH_take (i := 8) (v := .int .i64 (1 + (y : Int))) rfl (by kernel_rfl) (by kernel_rfl) (by kernel_rfl) (fun _ _ _ h => h) (Or.inl ⟨by rfl, fun w hw => by obtain z0 := hw; go_simp⟩) hHeld ?_
            simp only [Act.put, List.getElem_toArray, List.getElem_cons_zero, List.getElem_cons_succ, List.setIfInBounds_toArray, List.set_cons_zero, List.set_cons_succ]
            refine wpAnyH_take (i := 9) (v := .int .u8 (1 + (y : Int))) rfl (by kernel_rfl) (by kernel_rfl) (by kernel_rfl) (fun _ _ _ h => h) (Or.inl ⟨by rfl, fun w hw => by obtain z0 := hw; go_simp⟩) hHeld ?_
            simp only [Act.put, List.getElem_toArray, List.getElem_cons_zero, List.getElem_cons_succ, List.setIfInBounds_toArray, List.set_cons_zero, List.set_cons_succ]
            refine wpAnyH_take (i := 10) (v := .int .u8 Y) rfl (by kernel_rfl) (by kernel_rfl) (by kernel_rfl) (fun _ _ _ h => h) (Or.inl ⟨by rfl, fun w hw => by obtain z0 := hw; go_simp⟩) hHeld ?_
            simp only [Act.put, List.getElem_toArray, List.getElem_cons_zero, List.getElem_cons_succ, List.setIfInBounds_toArray, List.set_cons_zero, List.set_cons_succ]
            refine wpAnyH_take (i := 11) (v := .pointer (some ⟨G, x, none⟩)) rfl (by kernel_rfl) (by kernel_rfl) (by kernel_rfl) (fun _ _ _ h => h) (Or.inl ⟨by rfl, fun w hw => by obtain z0 := hw; go_simp⟩) hHeld ?_
            simp only [Act.put, List.getElem_toArray, List.getElem_cons_zero, List.getElem_cons_succ, List.setIfInBounds_toArray, List.set_cons_zero, List.set_cons_succ]
            refine wpAnyH_ready (rs := [12]) (by kernel_rfl) (by simp) ?_
            refine AllReadyH.cons rfl (fun K hK => ?_) AllReadyH.nil
            have cx10 := HF9.out.cell x (by omega)
            have cf10 := HF9.out.froz x (by omega)
            go_simp
            refine hK.out _ _ hHeld (fun _ => ?_)
            clear hK K
            try simp only [Act.put, List.getElem_toArray, List.getElem_cons_zero, List.getElem_cons_succ, List.setIfInBounds_toArray, List.set_cons_zero, List.set_cons_succ]
            refine wpAnyH_done (by kernel_rfl) ?_ _
            have HF10 := hid (HF9.out.set x (by omega) Y)
            have hr10 : Rdr (w9.setCell ⟨G, x, none⟩ (.int .u8 Y)) w.heap.size a n' c' (q + 1 + 1 + 1) := hr9.far _ (by show G ≠ w.heap.size; omega) (fun g o ea e0 => by have := hr9.lts.2 g o ea e0; have hgg := HGA.out g o ea e0; show g ≠ G; omega) _
            have be10 : Below w.heap.size w (w9.setCell ⟨G, x, none⟩ (.int .u8 Y)) := be9.setCell (by show w.heap.size ≤ G; omega) _
            have hs10 : G < (w9.setCell ⟨G, x, none⟩ (.int .u8 Y)).heap.size := by rw [World.size_setCell]; exact hs9
            obtain ⟨w10, e_w10⟩ : ∃ z, z = w9.setCell ⟨G, x, none⟩ (.int .u8 Y) := ⟨_, rfl⟩
            rw [← e_w10] at HF10 hr10 be10 hs10 ⊢
            clear e_w10 cx10 cf10 HF9 hr9 be9 hY HF8
            obtain ⟨ys, e_ys⟩ : ∃ z, z = xs.set x Y := ⟨_, rfl⟩
            have hyl : ys.length = N := by rw [e_ys, List.length_set]; exact hxl
            rw [← e_ys] at HF10
            clear e_ys
            obtain ⟨U, e_U⟩ : ∃ U, U = strOfNums ys := ⟨_, rfl⟩
            have hUs : U.size = N := by rw [e_U, strOfNums_size]; exact hyl
            have HCV : Hid (∀ wx, Fm wx G ys → (convert 28 9 (.slice (some ⟨G, 0, none⟩) N cap)).run Tryd.prog wx = .ok (.string U) wx) := fun wx hx => by have := bytes_back wx G cap ys hx; rwa [hyl, ← e_U] at this
            clear e_U
            have hSz : (sumN U wn).size = wn := sumN_size U wn
            have HSM := hid (fun wx => sum_s U wx wn (by omega) hw1 hw2)
            obtain ⟨V, e_V⟩ : ∃ V, V = sumN U wn := ⟨_, rfl⟩
            rw [← e_V] at hSz HSM
            clear e_V
            have z2 : ¬ (9223372036854775807 < V.size + U.size) := by omega
            have z3 : ¬ (9223372036854775807 < wn + N) := by omega
            go_wp2_with fail
            refine wp_region_held_drew (S := fun w' => (convert 28 9 (.slice (some ⟨G, 0, none⟩) N cap)).run Tryd.prog w' = .ok (.string U) w') (by kernel_rfl) (HCV.out _ HF10.out.drew) (fun hHeld => ?_)
            refine wpAnyH_take (i := 0) (v := .slice (some ⟨G, 0, none⟩) N cap) rfl (by kernel_rfl) (by kernel_rfl) (by kernel_rfl) (fun _ _ _ h => h) (Or.inl ⟨by rfl, fun w hw => by obtain z0 := hw; go_simp⟩) hHeld ?_
            simp only [Act.put, List.getElem_toArray, List.getElem_cons_zero, List.getElem_cons_succ, List.setIfInBounds_toArray, List.set_cons_zero, List.set_cons_succ]
            refine wpAnyH_take (i := 1) (v := .string U) rfl (by kernel_rfl) (by kernel_rfl) (by kernel_rfl) (fun _ _ _ h => h) (Or.inl ⟨by rfl, fun w hw => by obtain z0 := hw; go_simp⟩) hHeld ?_
            simp only [Act.put, List.getElem_toArray, List.getElem_cons_zero, List.getElem_cons_succ, List.setIfInBounds_toArray, List.set_cons_zero, List.set_cons_succ]
            refine wpAnyH_take (i := 2) (v := .int .i64 (wn : Int)) rfl (by kernel_rfl) (by kernel_rfl) (by kernel_rfl) (fun _ _ _ h => h) (Or.inl ⟨by rfl, fun w hw => by obtain z0 := hw; go_simp⟩) hHeld ?_
            simp only [Act.put, List.getElem_toArray, List.getElem_cons_zero, List.getElem_cons_succ, List.setIfInBounds_toArray, List.set_cons_zero, List.set_cons_succ]
            refine wpAnyH_take (i := 4) (v := .slice (some ⟨G, 0, none⟩) N cap) rfl (by kernel_rfl) (by kernel_rfl) (by kernel_rfl) (fun _ _ _ h => h) (Or.inl ⟨by rfl, fun w hw => by obtain z0 := hw; go_simp⟩) hHeld ?_
            simp only [Act.put, List.getElem_toArray, List.getElem_cons_zero, List.getElem_cons_succ, List.setIfInBounds_toArray, List.set_cons_zero, List.set_cons_succ]
            refine wpAnyH_take (i := 5) (v := .string U) rfl (by kernel_rfl) (by kernel_rfl) (by kernel_rfl) (fun _ _ _ h => h) (Or.inl ⟨by rfl, fun w hw => by obtain z0 := hw; go_simp⟩) hHeld ?_
            simp only [Act.put, List.getElem_toArray, List.getElem_cons_zero, List.getElem_cons_succ, List.setIfInBounds_toArray, List.set_cons_zero, List.set_cons_succ]
            refine wpAnyH_ready (rs := [3]) (by kernel_rfl) (by simp) ?_
            refine AllReadyH.cons rfl (fun K hK => ?_) AllReadyH.nil
            refine step_call (by rfl) 27 #[.string U, .int .i64 (wn : Int)] (by go_simp) (HSM.out _) ?_
            rintro e w11 ⟨rfl, hb11⟩
            refine ⟨_, rfl, ?_⟩
            have hr11 := hr10.drew.below hb11
            have be11 := (be10.trans ((Below.refl _ _).drew.mono be10.size)).trans (hb11.mono be10.size)
            have hF11 := HF10.out.drew.below hb11 (by exact hs10)
            refine hK.out _ _ (HCV.out _ hF11) (fun hHd1 => ?_)
            clear hK K
            try simp only [Act.put, List.getElem_toArray, List.getElem_cons_zero, List.getElem_cons_succ, List.setIfInBounds_toArray, List.set_cons_zero, List.set_cons_succ]
            refine wpAnyH_take (i := 6) (v := .string (V ++ U)) rfl (by kernel_rfl) (by kernel_rfl) (by kernel_rfl) (fun _ _ _ h => h) (Or.inl ⟨by rfl, fun w hw => by obtain z0 := hw; go_simp⟩) hHd1 ?_
            simp only [Act.put, List.getElem_toArray, List.getElem_cons_zero, List.getElem_cons_succ, List.setIfInBounds_toArray, List.set_cons_zero, List.set_cons_succ]
            refine wpAnyH_ready (rs := [7]) (by kernel_rfl) (by simp) ?_
            refine AllReadyH.cons rfl (fun K hK => ?_) AllReadyH.nil
            go_simp
            refine hK.out _ _ hHd1 (fun _ => ?_)
            clear hK K
            try simp only [Act.put, List.getElem_toArray, List.getElem_cons_zero, List.getElem_cons_succ, List.setIfInBounds_toArray, List.set_cons_zero, List.set_cons_succ]
            refine wpAnyH_done (by kernel_rfl) ?_ _
            go_wp2_with fail
            refine (pick_r w.heap.size a n' c' (q + 1 + 1 + 1) 10 _ hr11 (by omega)).mono ?_
            rintro e wt1 ⟨⟨y, rfl, y0, y1⟩, hrt1, hgt1⟩
            have bet1 := be11.trans (grown_below hgt1 be11.size (fun g e => by cases e; omega))
            by_cases hy : y = 0
            · subst hy
              go_wp2_with fail
              refine (pick_r w.heap.size a n' c' (q + 1 + 1 + 1 + 1) 10 _ hrt1 (by omega)).mono ?_
              rintro e wt2 ⟨⟨z, rfl, z0, z1⟩, hrt2, hgt2⟩
              have bet2 := bet1.trans (grown_below hgt2 bet1.size (fun g e => by cases e; omega))
              go_wp2
              refine bodyPost_ret (v := .tuple #[.string (V ++ U), .int .i64 z]) (by simp [results, Tryd.results12, go_sem]) rfl ?_
              exact ⟨⟨_, _, rfl, by first | omega | (simp only [ByteArray.size_append]; omega)⟩, bet2⟩
            · go_wp2
              refine bodyPost_ret (v := .tuple #[.string (V ++ U), .int .i64 (wn : Int)]) (by simp [results, Tryd.results12, go_sem]) rfl ?_
              exact ⟨⟨_, _, rfl, by first | omega | (simp only [ByteArray.size_append]; omega)⟩, bet1⟩
          · refine step_call (by rfl) 21 #[.pointer (some ⟨w.heap.size, 0, none⟩), .int .i64 3] (by go_simp) (pick_r w.heap.size a n' c' (q + 1 + 1) 3 _ hr8.drew (by omega)) ?_
            rintro e w9 ⟨⟨y', rfl, y0, y1⟩, hr9, hg9⟩
            refine ⟨_, rfl, ?_⟩
            obtain ⟨y, rfl⟩ : ∃ k : Nat, y' = (k : Int) := ⟨y'.toNat, by omega⟩
            have hy3 : y < 3 := by omega
            clear y0 y1
            have be9 := (be8.trans ((Below.refl _ _).drew.mono be8.size)).trans (grown_below hg9 be8.size (fun g e => by cases e; omega))
            have HF9 := hid (HF8.out.drew.grown (by exact hs8) hg9 (fun e => by injection e with e; omega))
            have hs9 : G < w9.heap.size := Nat.lt_of_lt_of_le hs8 hg9.size
            have hX9 : xs.getD x 0 = X := by have h1 := HF8.out.cell x (by omega); rw [cx] at h1; injection h1 with h1; injection h1 with _ h1; exact h1.symm
            have hyw : IntKind.i64.wrap (1 + (y : Int)) = 1 + (y : Int) := wrap_i64_id _ (by omega) (by omega)
            have hyu : IntKind.u8.wrap (1 + (y : Int)) = 1 + (y : Int) := by simp [IntKind.wrap, IntKind.bits, IntKind.signed]; omega
            obtain ⟨Y, hY⟩ : ∃ Y, bits .xor .u8 X (1 + (y : Int)) = Y := ⟨_, rfl⟩
            have HX9 := hid hX9
            refine hK.out _ _ hHeld (fun _ => ?_)
            clear hK K
            try simp only [Act.put, List.getElem_toArray, List.getElem_cons_zero, List.getElem_cons_succ, List.setIfInBounds_toArray, List.set_cons_zero, List.set_cons_succ]
            refine wpAnyH_take (i := 8) (v := .int .i64 (1 + (y : Int))) rfl (by kernel_rfl) (by kernel_rfl) (by kernel_rfl) (fun _ _ _ h => h) (Or.inl ⟨by rfl, fun w hw => by obtain z0 := hw; go_simp⟩) hHeld ?_
            simp only [Act.put, List.getElem_toArray, List.getElem_cons_zero, List.getElem_cons_succ, List.setIfInBounds_toArray, List.set_cons_zero, List.set_cons_succ]
            refine wpAnyH_take (i := 9) (v := .int .u8 (1 + (y : Int))) rfl (by kernel_rfl) (by kernel_rfl) (by kernel_rfl) (fun _ _ _ h => h) (Or.inl ⟨by rfl, fun w hw => by obtain z0 := hw; go_simp⟩) hHeld ?_
            simp only [Act.put, List.getElem_toArray, List.getElem_cons_zero, List.getElem_cons_succ, List.setIfInBounds_toArray, List.set_cons_zero, List.set_cons_succ]
            refine wpAnyH_ready (rs := [5]) (by kernel_rfl) (by simp) ?_
            refine AllReadyH.cons rfl (fun K hK => ?_) AllReadyH.nil
            have cx9 := HF9.out.cell x (by omega)
            rw [hX9] at cx9
            go_simp
            refine hK.out _ _ hHeld (fun _ => ?_)
            clear hK K
            try simp only [Act.put, List.getElem_toArray, List.getElem_cons_zero, List.getElem_cons_succ, List.setIfInBounds_toArray, List.set_cons_zero, List.set_cons_succ]
            refine wpAnyH_take (i := 10) (v := .int .u8 Y) rfl (by kernel_rfl) (by kernel_rfl) (by kernel_rfl) (fun _ _ _ h => h) (Or.inl ⟨by rfl, fun w hw => by obtain z0 := hw; go_simp⟩) hHeld ?_
            simp only [Act.put, List.getElem_toArray, List.getElem_cons_zero, List.getElem_cons_succ, List.setIfInBounds_toArray, List.set_cons_zero, List.set_cons_succ]
            refine wpAnyH_take (i := 11) (v := .pointer (some ⟨G, x, none⟩)) rfl (by kernel_rfl) (by kernel_rfl) (by kernel_rfl) (fun _ _ _ h => h) (Or.inl ⟨by rfl, fun w hw => by obtain z0 := hw; go_simp⟩) hHeld ?_
            simp only [Act.put, List.getElem_toArray, List.getElem_cons_zero, List.getElem_cons_succ, List.setIfInBounds_toArray, List.set_cons_zero, List.set_cons_succ]
            refine wpAnyH_ready (rs := [12]) (by kernel_rfl) (by simp) ?_
            refine AllReadyH.cons rfl (fun K hK => ?_) AllReadyH.nil
            have cx10 := HF9.out.cell x (by omega)
            have cf10 := HF9.out.froz x (by omega)
            go_simp
            refine hK.out _ _ hHeld (fun _ => ?_)
            clear hK K
            try simp only [Act.put, List.getElem_toArray, List.getElem_cons_zero, List.getElem_cons_succ, List.setIfInBounds_toArray, List.set_cons_zero, List.set_cons_succ]
            refine wpAnyH_done (by kernel_rfl) ?_ _
            have HF10 := hid (HF9.out.set x (by omega) Y)
            have hr10 : Rdr (w9.setCell ⟨G, x, none⟩ (.int .u8 Y)) w.heap.size a n' c' (q + 1 + 1 + 1) := hr9.far _ (by show G ≠ w.heap.size; omega) (fun g o ea e0 => by have := hr9.lts.2 g o ea e0; have hgg := HGA.out g o ea e0; show g ≠ G; omega) _
            have be10 : Below w.heap.size w (w9.setCell ⟨G, x, none⟩ (.int .u8 Y)) := be9.setCell (by show w.heap.size ≤ G; omega) _
            have hs10 : G < (w9.setCell ⟨G, x, none⟩ (.int .u8 Y)).heap.size := by rw [World.size_setCell]; exact hs9
            obtain ⟨w10, e_w10⟩ : ∃ z, z = w9.setCell ⟨G, x, none⟩ (.int .u8 Y) := ⟨_, rfl⟩
            rw [← e_w10] at HF10 hr10 be10 hs10 ⊢
            clear e_w10 cx10 cf10 HF9 hr9 be9 hY HF8
            obtain ⟨ys, e_ys⟩ : ∃ z, z = xs.set x Y := ⟨_, rfl⟩
            have hyl : ys.length = N := by rw [e_ys, List.length_set]; exact hxl
            rw [← e_ys] at HF10
            clear e_ys
            obtain ⟨U, e_U⟩ : ∃ U, U = strOfNums ys := ⟨_, rfl⟩
            have hUs : U.size = N := by rw [e_U, strOfNums_size]; exact hyl
            have HCV : Hid (∀ wx, Fm wx G ys → (convert 28 9 (.slice (some ⟨G, 0, none⟩) N cap)).run Tryd.prog wx = .ok (.string U) wx) := fun wx hx => by have := bytes_back wx G cap ys hx; rwa [hyl, ← e_U] at this
            clear e_U
            have hSz : (sumN U wn).size = wn := sumN_size U wn
            have HSM := hid (fun wx => sum_s U wx wn (by omega) hw1 hw2)
            obtain ⟨V, e_V⟩ : ∃ V, V = sumN U wn := ⟨_, rfl⟩
            rw [← e_V] at hSz HSM
            clear e_V
            have z2 : ¬ (9223372036854775807 < V.size + U.size) := by omega
            have z3 : ¬ (9223372036854775807 < wn + N) := by omega
            go_wp2_with fail
            refine wp_region_held_drew (S := fun w' => (convert 28 9 (.slice (some ⟨G, 0, none⟩) N cap)).run Tryd.prog w' = .ok (.string U) w') (by kernel_rfl) (HCV.out _ HF10.out.drew) (fun hHeld => ?_)
            refine wpAnyH_take (i := 0) (v := .slice (some ⟨G, 0, none⟩) N cap) rfl (by kernel_rfl) (by kernel_rfl) (by kernel_rfl) (fun _ _ _ h => h) (Or.inl ⟨by rfl, fun w hw => by obtain z0 := hw; go_simp⟩) hHeld ?_
            simp only [Act.put, List.getElem_toArray, List.getElem_cons_zero, List.getElem_cons_succ, List.setIfInBounds_toArray, List.set_cons_zero, List.set_cons_succ]
            refine wpAnyH_take (i := 1) (v := .string U) rfl (by kernel_rfl) (by kernel_rfl) (by kernel_rfl) (fun _ _ _ h => h) (Or.inl ⟨by rfl, fun w hw => by obtain z0 := hw; go_simp⟩) hHeld ?_
            simp only [Act.put, List.getElem_toArray, List.getElem_cons_zero, List.getElem_cons_succ, List.setIfInBounds_toArray, List.set_cons_zero, List.set_cons_succ]
            refine wpAnyH_take (i := 2) (v := .int .i64 (wn : Int)) rfl (by kernel_rfl) (by kernel_rfl) (by kernel_rfl) (fun _ _ _ h => h) (Or.inl ⟨by rfl, fun w hw => by obtain z0 := hw; go_simp⟩) hHeld ?_
            simp only [Act.put, List.getElem_toArray, List.getElem_cons_zero, List.getElem_cons_succ, List.setIfInBounds_toArray, List.set_cons_zero, List.set_cons_succ]
            refine wpAnyH_take (i := 4) (v := .slice (some ⟨G, 0, none⟩) N cap) rfl (by kernel_rfl) (by kernel_rfl) (by kernel_rfl) (fun _ _ _ h => h) (Or.inl ⟨by rfl, fun w hw => by obtain z0 := hw; go_simp⟩) hHeld ?_
            simp only [Act.put, List.getElem_toArray, List.getElem_cons_zero, List.getElem_cons_succ, List.setIfInBounds_toArray, List.set_cons_zero, List.set_cons_succ]
            refine wpAnyH_take (i := 5) (v := .string U) rfl (by kernel_rfl) (by kernel_rfl) (by kernel_rfl) (fun _ _ _ h => h) (Or.inl ⟨by rfl, fun w hw => by obtain z0 := hw; go_simp⟩) hHeld ?_
            simp only [Act.put, List.getElem_toArray, List.getElem_cons_zero, List.getElem_cons_succ, List.setIfInBounds_toArray, List.set_cons_zero, List.set_cons_succ]
            refine wpAnyH_ready (rs := [3]) (by kernel_rfl) (by simp) ?_
            refine AllReadyH.cons rfl (fun K hK => ?_) AllReadyH.nil
            refine step_call (by rfl) 27 #[.string U, .int .i64 (wn : Int)] (by go_simp) (HSM.out _) ?_
            rintro e w11 ⟨rfl, hb11⟩
            refine ⟨_, rfl, ?_⟩
            have hr11 := hr10.drew.below hb11
            have be11 := (be10.trans ((Below.refl _ _).drew.mono be10.size)).trans (hb11.mono be10.size)
            have hF11 := HF10.out.drew.below hb11 (by exact hs10)
            refine hK.out _ _ (HCV.out _ hF11) (fun hHd1 => ?_)
            clear hK K
            try simp only [Act.put, List.getElem_toArray, List.getElem_cons_zero, List.getElem_cons_succ, List.setIfInBounds_toArray, List.set_cons_zero, List.set_cons_succ]
            refine wpAnyH_take (i := 6) (v := .string (V ++ U)) rfl (by kernel_rfl) (by kernel_rfl) (by kernel_rfl) (fun _ _ _ h => h) (Or.inl ⟨by rfl, fun w hw => by obtain z0 := hw; go_simp⟩) hHd1 ?_
            simp only [Act.put, List.getElem_toArray, List.getElem_cons_zero, List.getElem_cons_succ, List.setIfInBounds_toArray, List.set_cons_zero, List.set_cons_succ]
            refine wpAnyH_ready (rs := [7]) (by kernel_rfl) (by simp) ?_
            refine AllReadyH.cons rfl (fun K hK => ?_) AllReadyH.nil
            go_simp
            refine hK.out _ _ hHd1 (fun _ => ?_)
            clear hK K
            try simp only [Act.put, List.getElem_toArray, List.getElem_cons_zero, List.getElem_cons_succ, List.setIfInBounds_toArray, List.set_cons_zero, List.set_cons_succ]
            refine wpAnyH_done (by kernel_rfl) ?_ _
            go_wp2_with fail
            refine (pick_r w.heap.size a n' c' (q + 1 + 1 + 1) 10 _ hr11 (by omega)).mono ?_
            rintro e wt1 ⟨⟨y, rfl, y0, y1⟩, hrt1, hgt1⟩
            have bet1 := be11.trans (grown_below hgt1 be11.size (fun g e => by cases e; omega))
            by_cases hy : y = 0
            · subst hy
              go_wp2_with fail
              refine (pick_r w.heap.size a n' c' (q + 1 + 1 + 1 + 1) 10 _ hrt1 (by omega)).mono ?_
              rintro e wt2 ⟨⟨z, rfl, z0, z1⟩, hrt2, hgt2⟩
              have bet2 := bet1.trans (grown_below hgt2 bet1.size (fun g e => by cases e; omega))
              go_wp2
              refine bodyPost_ret (v := .tuple #[.string (V ++ U), .int .i64 z]) (by simp [results, Tryd.results12, go_sem]) rfl ?_
              exact ⟨⟨_, _, rfl, by first | omega | (simp only [ByteArray.size_append]; omega)⟩, bet2⟩
            · go_wp2
              refine bodyPost_ret (v := .tuple #[.string (V ++ U), .int .i64 (wn : Int)]) (by simp [results, Tryd.results12, go_sem]) rfl ?_
              exact ⟨⟨_, _, rfl, by first | omega | (simp only [ByteArray.size_append]; omega)⟩, bet1⟩
        · go_wp2_with (first | (go_at_call 13; refine (width_s _ _).mono ?_; rw [hd]; rintro e wz ⟨rfl, hwz⟩; rw [hwz]; clear hwz wz))
          refine (pick_r w.heap.size a n' c' (q + 1) 10 _ hr7 (by omega)).mono ?_
          rintro e wt1 ⟨⟨y, rfl, y0, y1⟩, hrt1, hgt1⟩
          have bet1 := be7.trans (grown_below hgt1 be7.size (fun g e => by cases e; omega))
          by_cases hy : y = 0
          · subst hy
            go_wp2_with fail
            refine (pick_r w.heap.size a n' c' (q + 1 + 1) 10 _ hrt1 (by omega)).mono ?_
            rintro e wt2 ⟨⟨z, rfl, z0, z1⟩, hrt2, hgt2⟩
            have bet2 := bet1.trans (grown_below hgt2 bet1.size (fun g e => by cases e; omega))
            go_wp2
            refine bodyPost_ret (v := .tuple #[.string s, .int .i64 z]) (by simp [results, Tryd.results12, go_sem]) rfl ?_
            exact ⟨⟨_, _, rfl, by first | omega | (simp only [ByteArray.size_append]; omega)⟩, bet2⟩
          · go_wp2
            refine bodyPost_ret (v := .tuple #[.string s, .int .i64 wd]) (by simp [results, Tryd.results12, go_sem]) rfl ?_
            exact ⟨⟨_, _, rfl, by first | omega | (simp only [ByteArray.size_append]; omega)⟩, bet1⟩
      · have hd : decide (1 ≤ wd ∧ wd ≤ 8) = false := decide_eq_false hwd
        go_wp2_with (first | (go_at_call 13; refine (width_s _ _).mono ?_; rw [hd]; rintro e wz ⟨rfl, hwz⟩; rw [hwz]; clear hwz wz))
        refine (pick_r w.heap.size a n' c' (q + 1) 10 _ hr7 (by omega)).mono ?_
        rintro e wt1 ⟨⟨y, rfl, y0, y1⟩, hrt1, hgt1⟩
        have bet1 := be7.trans (grown_below hgt1 be7.size (fun g e => by cases e; omega))
        by_cases hy : y = 0
        · subst hy
          go_wp2_with fail
          refine (pick_r w.heap.size a n' c' (q + 1 + 1) 10 _ hrt1 (by omega)).mono ?_
          rintro e wt2 ⟨⟨z, rfl, z0, z1⟩, hrt2, hgt2⟩
          have bet2 := bet1.trans (grown_below hgt2 bet1.size (fun g e => by cases e; omega))
          go_wp2
          refine bodyPost_ret (v := .tuple #[.string s, .int .i64 z]) (by simp [results, Tryd.results12, go_sem]) rfl ?_
          exact ⟨⟨_, _, rfl, by first | omega | (simp only [ByteArray.size_append]; omega)⟩, bet2⟩
        · go_wp2
          refine bodyPost_ret (v := .tuple #[.string s, .int .i64 wd]) (by simp [results, Tryd.results12, go_sem]) rfl ?_
          exact ⟨⟨_, _, rfl, by first | omega | (simp only [ByteArray.size_append]; omega)⟩, bet1⟩
    · have hv' : ¬ v = 0 := hv
      go_wp2_with fail
      refine (pick_r w.heap.size a n' c' (q + 1) 10 _ hr7 (by omega)).mono ?_
      rintro e wt1 ⟨⟨y, rfl, y0, y1⟩, hrt1, hgt1⟩
      have bet1 := be7.trans (grown_below hgt1 be7.size (fun g e => by cases e; omega))
      by_cases hy : y = 0
      · subst hy
        go_wp2_with fail
        refine (pick_r w.heap.size a n' c' (q + 1 + 1) 10 _ hrt1 (by omega)).mono ?_
        rintro e wt2 ⟨⟨z, rfl, z0, z1⟩, hrt2, hgt2⟩
        have bet2 := bet1.trans (grown_below hgt2 bet1.size (fun g e => by cases e; omega))
        go_wp2
        refine bodyPost_ret (v := .tuple #[.string s, .int .i64 z]) (by simp [results, Tryd.results12, go_sem]) rfl ?_
        exact ⟨⟨_, _, rfl, by first | omega | (simp only [ByteArray.size_append]; omega)⟩, bet2⟩
      · go_wp2
        refine bodyPost_ret (v := .tuple #[.string s, .int .i64 wd]) (by simp [results, Tryd.results12, go_sem]) rfl ?_
        exact ⟨⟨_, _, rfl, by first | omega | (simp only [ByteArray.size_append]; omega)⟩, bet1⟩
  · have hr6 := hr5
    have be6 := be5
    obtain ⟨w6, e_w6⟩ : ∃ x, x = w5 := ⟨_, rfl⟩
    rw [← e_w6] at hr6 be6 ⊢
    clear e_w6 hr5 be5
    obtain ⟨q, e_q⟩ : ∃ q : Int, q = 0 + 1 := ⟨_, rfl⟩
    rw [← e_q] at hr6
    have hq : q ≤ 100 := by omega
    have q0 : 0 ≤ q := by omega
    obtain ⟨s, e_s⟩ : ∃ s, s = F := ⟨_, rfl⟩
    rw [← e_s] at hFs ⊢
    have hs' : s.size ≤ 200 := by omega
    clear e_s e_q hFs F
    have q00 : 0 ≤ q := by omega
    go_wp2_with fail
    refine (pick_r w.heap.size a n' c' (q) 6 _ hr6 (by omega)).mono ?_
    rintro e w7 ⟨⟨v, rfl, v0, v1⟩, hr7, hg7⟩
    have be7 := be6.trans (grown_below hg7 be6.size (fun g e => by cases e; omega))
    clear hg7
    by_cases hv : v = 0
    · subst hv
      by_cases hwd : 1 ≤ wd ∧ wd ≤ 8
      · have hd : decide (1 ≤ wd ∧ wd ≤ 8) = true := decide_eq_true hwd
        by_cases hsz : (s.size : Int) = 64
        · obtain ⟨wn, rfl⟩ : ∃ k : Nat, wd = (k : Int) := ⟨wd.toNat, by omega⟩
          have hw1 : 1 ≤ wn := by omega
          have hw2 : wn ≤ 8 := by omega
          have hws : (wn : Int) ≤ (s.size : Int) := by omega
          obtain ⟨cap, wB, hcv, hbB, hszB, hfm, hcap⟩ := conv_bytes w7 (s.extract wn s.size)
          have hN : (s.extract wn s.size).size = s.size - wn := by simp only [ByteArray.size_extract]; omega
          have hxl : (nums (s.extract wn s.size)).length = s.size - wn := by rw [nums_length, hN]
          obtain ⟨N, hNN⟩ : ∃ N : Nat, N = s.size - wn := ⟨_, rfl⟩
          rw [hN, ← hNN] at hcv hcap
          rw [← hNN] at hxl
          obtain ⟨xs, e_xs⟩ : ∃ xs, xs = nums (s.extract wn s.size) := ⟨_, rfl⟩
          rw [← e_xs] at hfm hxl
          clear e_xs hN
          have hN1 : N ≤ 64 := by omega
          have hN0 : 0 < N := by omega
          have HFM := hid hfm
          clear hfm
          have hrB := hr7.below hbB
          have beB := be7.trans (hbB.mono be7.size)
          have hgB : w.heap.size < w7.heap.size := lt_of_cell hr7.pc
          have HNN := hid hNN
          clear hNN
          go_wp2_with (first | (go_at_call 13; refine (width_s _ _).mono ?_; rw [hd]; rintro e wz ⟨rfl, hwz⟩; rw [hwz]; clear hwz wz))
          refine (pick_r w.heap.size a n' c' (q + 1) (N : Int) _ hrB (by omega)).mono ?_
          rintro e w8 ⟨⟨x', rfl, x0, x1⟩, hr8, hg8⟩
          have be8 := beB.trans (grown_below hg8 beB.size (fun g e => by cases e; omega))
          obtain ⟨x, rfl⟩ : ∃ k : Nat, x' = (k : Int) := ⟨x'.toNat, by omega⟩
          have hxN : x < N := by omega
          have hxNi : (x : Int) < (N : Int) := by omega
          clear x0 x1
          have HF8 := hid (HFM.out.grown (by omega) hg8 (fun e => by injection e with e; omega))
          have hs8 : w7.heap.size < w8.heap.size := by have := hg8.size; omega
          obtain ⟨G, e_G⟩ : ∃ G, G = w7.heap.size := ⟨_, rfl⟩
          rw [← e_G] at HF8 hs8 hgB ⊢
          clear hcv hg8 hbB hrB beB HFM hszB e_G
          obtain ⟨X, hX⟩ : ∃ X, xs.getD x 0 = X := ⟨_, rfl⟩
          have cx : w8.cell? ⟨G, x, none⟩ = some (.int .u8 X) := by have := HF8.out.cell x (by omega); rwa [hX] at this
          clear hX
          go_wp2_with fail
          refine wp_region_held_drew (S := fun w' => True) (by kernel_rfl) (trivial) (fun hHeld => ?_)
          refine wpAnyH_take (i := 0) (v := .slice (some ⟨G, 0, none⟩) N cap) rfl (by kernel_rfl) (by kernel_rfl) (by kernel_rfl) (fun _ _ _ h => h) (Or.inl ⟨by rfl, fun w hw => by obtain z0 := hw; go_simp⟩) hHeld ?_
          simp only [Act.put, List.getElem_toArray, List.getElem_cons_zero, List.getElem_cons_succ, List.setIfInBounds_toArray, List.set_cons_zero, List.set_cons_succ]
          refine wpAnyH_take (i := 1) (v := .int .i64 (x : Int)) rfl (by kernel_rfl) (by kernel_rfl) (by kernel_rfl) (fun _ _ _ h => h) (Or.inl ⟨by rfl, fun w hw => by obtain z0 := hw; go_simp⟩) hHeld ?_
          simp only [Act.put, List.getElem_toArray, List.getElem_cons_zero, List.getElem_cons_succ, List.setIfInBounds_toArray, List.set_cons_zero, List.set_cons_succ]
          refine wpAnyH_take (i := 2) (v := .slice (some ⟨G, 0, none⟩) N cap) rfl (by kernel_rfl) (by kernel_rfl) (by kernel_rfl) (fun _ _ _ h => h) (Or.inl ⟨by rfl, fun w hw => by obtain z0 := hw; go_simp⟩) hHeld ?_
          simp only [Act.put, List.getElem_toArray, List.getElem_cons_zero, List.getElem_cons_succ, List.setIfInBounds_toArray, List.set_cons_zero, List.set_cons_succ]
          refine wpAnyH_take (i := 3) (v := .int .i64 (x : Int)) rfl (by kernel_rfl) (by kernel_rfl) (by kernel_rfl) (fun _ _ _ h => h) (Or.inl ⟨by rfl, fun w hw => by obtain z0 := hw; go_simp⟩) hHeld ?_
          simp only [Act.put, List.getElem_toArray, List.getElem_cons_zero, List.getElem_cons_succ, List.setIfInBounds_toArray, List.set_cons_zero, List.set_cons_succ]
          refine wpAnyH_take (i := 4) (v := .pointer (some ⟨G, x, none⟩)) rfl (by kernel_rfl) (by kernel_rfl) (by kernel_rfl) (fun _ _ _ h => h) (Or.inl ⟨by rfl, fun w hw => by obtain z0 := hw; go_simp⟩) hHeld ?_
          simp only [Act.put, List.getElem_toArray, List.getElem_cons_zero, List.getElem_cons_succ, List.setIfInBounds_toArray, List.set_cons_zero, List.set_cons_succ]
          refine wpAnyH_take (i := 6) (v := .pointer (some ⟨w.heap.size, 0, none⟩)) rfl (by kernel_rfl) (by kernel_rfl) (by kernel_rfl) (fun _ _ _ h => h) (Or.inl ⟨by rfl, fun w hw => by obtain z0 := hw; go_simp⟩) hHeld ?_
          simp only [Act.put, List.getElem_toArray, List.getElem_cons_zero, List.getElem_cons_succ, List.setIfInBounds_toArray, List.set_cons_zero, List.set_cons_succ]
          refine wpAnyH_ready (rs := [5, 7]) (by kernel_rfl) (by simp) ?_
          refine AllReadyH.cons rfl (fun K hK => ?_) (AllReadyH.cons rfl (fun K hK => ?_) AllReadyH.nil)
          · go_simp
            refine hK.out _ _ hHeld (fun _ => ?_)
            clear hK K
            try simp only [Act.put, List.getElem_toArray, List.getElem_cons_zero, List.getElem_cons_succ, List.setIfInBounds_toArray, List.set_cons_zero, List.set_cons_succ]
            refine wpAnyH_ready (rs := [7]) (by kernel_rfl) (by simp) ?_
            refine AllReadyH.cons rfl (fun K hK => ?_) AllReadyH.nil
            refine step_call (by rfl) 21 #[.pointer (some ⟨w.heap.size, 0, none⟩), .int .i64 3] (by go_simp) (pick_r w.heap.size a n' c' (q + 1 + 1) 3 _ hr8.drew (by omega)) ?_
            rintro e w9 ⟨⟨y', rfl, y0, y1⟩, hr9, hg9⟩
            refine ⟨_, rfl, ?_⟩
            obtain ⟨y, rfl⟩ : ∃ k : Nat, y' = (k : Int) := ⟨y'.toNat, by omega⟩
            have hy3 : y < 3 := by omega
            clear y0 y1
            have be9 := (be8.trans ((Below.refl _ _).drew.mono be8.size)).trans (grown_below hg9 be8.size (fun g e => by cases e; omega))
            have HF9 := hid (HF8.out.drew.grown (by exact hs8) hg9 (fun e => by injection e with e; omega))
            have hs9 : G < w9.heap.size := Nat.lt_of_lt_of_le hs8 hg9.size
            have hX9 : xs.getD x 0 = X := by have h1 := HF8.out.cell x (by omega); rw [cx] at h1; injection h1 with h1; injection h1 with _ h1; exact h1.symm
            have hyw : IntKind.i64.wrap (1 + (y : Int)) = 1 + (y : Int) := wrap_i64_id _ (by omega) (by omega)
            have hyu : IntKind.u8.wrap (1 + (y : Int)) = 1 + (y : Int) := by simp [IntKind.wrap, IntKind.bits, IntKind.signed]; omega
            obtain ⟨Y, hY⟩ : ∃ Y, bits .xor .u8 X (1 + (y : Int)) = Y := ⟨_, rfl⟩
            have HX9 := hid hX9
            refine hK.out _ _ hHeld (fun _ => ?_)
            clear hK K
            try simp only [Act.put, List.getElem_toArray, List.getElem_cons_zero, List.getElem_cons_succ, List.setIfInBounds_toArray, List.set_cons_zero, List.set_cons_succ]
            refine wpAnyH_take (i := 8) (v := .int .i64 (1 + (y : Int))) rfl (by kernel_rfl) (by kernel_rfl) (by kernel_rfl) (fun _ _ _ h => h) (Or.inl ⟨by rfl, fun w hw => by obtain z0 := hw; go_simp⟩) hHeld ?_
            simp only [Act.put, List.getElem_toArray, List.getElem_cons_zero, List.getElem_cons_succ, List.setIfInBounds_toArray, List.set_cons_zero, List.set_cons_succ]
            refine wpAnyH_take (i := 9) (v := .int .u8 (1 + (y : Int))) rfl (by kernel_rfl) (by kernel_rfl) (by kernel_rfl) (fun _ _ _ h => h) (Or.inl ⟨by rfl, fun w hw => by obtain z0 := hw; go_simp⟩) hHeld ?_
            simp only [Act.put, List.getElem_toArray, List.getElem_cons_zero, List.getElem_cons_succ, List.setIfInBounds_toArray, List.set_cons_zero, List.set_cons_succ]
            refine wpAnyH_take (i := 10) (v := .int .u8 Y) rfl (by kernel_rfl) (by kernel_rfl) (by kernel_rfl) (fun _ _ _ h => h) (Or.inl ⟨by rfl, fun w hw => by obtain z0 := hw; go_simp⟩) hHeld ?_
            simp only [Act.put, List.getElem_toArray, List.getElem_cons_zero, List.getElem_cons_succ, List.setIfInBounds_toArray, List.set_cons_zero, List.set_cons_succ]
            refine wpAnyH_take (i := 11) (v := .pointer (some ⟨G, x, none⟩)) rfl (by kernel_rfl) (by kernel_rfl) (by kernel_rfl) (fun _ _ _ h => h) (Or.inl ⟨by rfl, fun w hw => by obtain z0 := hw; go_simp⟩) hHeld ?_
            simp only [Act.put, List.getElem_toArray, List.getElem_cons_zero, List.getElem_cons_succ, List.setIfInBounds_toArray, List.set_cons_zero, List.set_cons_succ]
            refine wpAnyH_ready (rs := [12]) (by kernel_rfl) (by simp) ?_
            refine AllReadyH.cons rfl (fun K hK => ?_) AllReadyH.nil
            have cx10 := HF9.out.cell x (by omega)
            have cf10 := HF9.out.froz x (by omega)
            go_simp
            refine hK.out _ _ hHeld (fun _ => ?_)
            clear hK K
            try simp only [Act.put, List.getElem_toArray, List.getElem_cons_zero, List.getElem_cons_succ, List.setIfInBounds_toArray, List.set_cons_zero, List.set_cons_succ]
            refine wpAnyH_done (by kernel_rfl) ?_ _
            have HF10 := hid (HF9.out.set x (by omega) Y)
            have hr10 : Rdr (w9.setCell ⟨G, x, none⟩ (.int .u8 Y)) w.heap.size a n' c' (q + 1 + 1 + 1) := hr9.far _ (by show G ≠ w.heap.size; omega) (fun g o ea e0 => by have := hr9.lts.2 g o ea e0; have hgg := HGA.out g o ea e0; show g ≠ G; omega) _
            have be10 : Below w.heap.size w (w9.setCell ⟨G, x, none⟩ (.int .u8 Y)) := be9.setCell (by show w.heap.size ≤ G; omega) _
            have hs10 : G < (w9.setCell ⟨G, x, none⟩ (.int .u8 Y)).heap.size := by rw [World.size_setCell]; exact hs9
            obtain ⟨w10, e_w10⟩ : ∃ z, z = w9.setCell ⟨G, x, none⟩ (.int .u8 Y) := ⟨_, rfl⟩
            rw [← e_w10] at HF10 hr10 be10 hs10 ⊢
            clear e_w10 cx10 cf10 HF9 hr9 be9 hY HF8
            obtain ⟨ys, e_ys⟩ : ∃ z, z = xs.set x Y := ⟨_, rfl⟩
            have hyl : ys.length = N := by rw [e_ys, List.length_set]; exact hxl
            rw [← e_ys] at HF10
            clear e_ys
            obtain ⟨U, e_U⟩ : ∃ U, U = strOfNums ys := ⟨_, rfl⟩
            have hUs : U.size = N := by rw [e_U, strOfNums_size]; exact hyl
            have HCV : Hid (∀ wx, Fm wx G ys → (convert 28 9 (.slice (some ⟨G, 0, none⟩) N cap)).run Tryd.prog wx = .ok (.string U) wx) := fun wx hx => by have := bytes_back wx G cap ys hx; rwa [hyl, ← e_U] at this
            clear e_U
            have hSz : (sumN U wn).size = wn := sumN_size U wn
            have HSM := hid (fun wx => sum_s U wx wn (by omega) hw1 hw2)
            obtain ⟨V, e_V⟩ : ∃ V, V = sumN U wn := ⟨_, rfl⟩
            rw [← e_V] at hSz HSM
            clear e_V
            have z2 : ¬ (9223372036854775807 < V.size + U.size) := by omega
            have z3 : ¬ (9223372036854775807 < wn + N) := by omega
            go_wp2_with fail
            refine wp_region_held_drew (S := fun w' => (convert 28 9 (.slice (some ⟨G, 0, none⟩) N cap)).run Tryd.prog w' = .ok (.string U) w') (by kernel_rfl) (HCV.out _ HF10.out.drew) (fun hHeld => ?_)
            refine wpAnyH_take (i := 0) (v := .slice (some ⟨G, 0, none⟩) N cap) rfl (by kernel_rfl) (by kernel_rfl) (by kernel_rfl) (fun _ _ _ h => h) (Or.inl ⟨by rfl, fun w hw => by obtain z0 := hw; go_simp⟩) hHeld ?_
            simp only [Act.put, List.getElem_toArray, List.getElem_cons_zero, List.getElem_cons_succ, List.setIfInBounds_toArray, List.set_cons_zero, List.set_cons_succ]
            refine wpAnyH_take (i := 1) (v := .string U) rfl (by kernel_rfl) (by kernel_rfl) (by kernel_rfl) (fun _ _ _ h => h) (Or.inl ⟨by rfl, fun w hw => by obtain z0 := hw; go_simp⟩) hHeld ?_
            simp only [Act.put, List.getElem_toArray, List.getElem_cons_zero, List.getElem_cons_succ, List.setIfInBounds_toArray, List.set_cons_zero, List.set_cons_succ]
            refine wpAnyH_take (i := 2) (v := .int .i64 (wn : Int)) rfl (by kernel_rfl) (by kernel_rfl) (by kernel_rfl) (fun _ _ _ h => h) (Or.inl ⟨by rfl, fun w hw => by obtain z0 := hw; go_simp⟩) hHeld ?_
            simp only [Act.put, List.getElem_toArray, List.getElem_cons_zero, List.getElem_cons_succ, List.setIfInBounds_toArray, List.set_cons_zero, List.set_cons_succ]
            refine wpAnyH_take (i := 4) (v := .slice (some ⟨G, 0, none⟩) N cap) rfl (by kernel_rfl) (by kernel_rfl) (by kernel_rfl) (fun _ _ _ h => h) (Or.inl ⟨by rfl, fun w hw => by obtain z0 := hw; go_simp⟩) hHeld ?_
            simp only [Act.put, List.getElem_toArray, List.getElem_cons_zero, List.getElem_cons_succ, List.setIfInBounds_toArray, List.set_cons_zero, List.set_cons_succ]
            refine wpAnyH_take (i := 5) (v := .string U) rfl (by kernel_rfl) (by kernel_rfl) (by kernel_rfl) (fun _ _ _ h => h) (Or.inl ⟨by rfl, fun w hw => by obtain z0 := hw; go_simp⟩) hHeld ?_
            simp only [Act.put, List.getElem_toArray, List.getElem_cons_zero, List.getElem_cons_succ, List.setIfInBounds_toArray, List.set_cons_zero, List.set_cons_succ]
            refine wpAnyH_ready (rs := [3]) (by kernel_rfl) (by simp) ?_
            refine AllReadyH.cons rfl (fun K hK => ?_) AllReadyH.nil
            refine step_call (by rfl) 27 #[.string U, .int .i64 (wn : Int)] (by go_simp) (HSM.out _) ?_
            rintro e w11 ⟨rfl, hb11⟩
            refine ⟨_, rfl, ?_⟩
            have hr11 := hr10.drew.below hb11
            have be11 := (be10.trans ((Below.refl _ _).drew.mono be10.size)).trans (hb11.mono be10.size)
            have hF11 := HF10.out.drew.below hb11 (by exact hs10)
            refine hK.out _ _ (HCV.out _ hF11) (fun hHd1 => ?_)
            clear hK K
            try simp only [Act.put, List.getElem_toArray, List.getElem_cons_zero, List.getElem_cons_succ, List.setIfInBounds_toArray, List.set_cons_zero, List.set_cons_succ]
            refine wpAnyH_take (i := 6) (v := .string (V ++ U)) rfl (by kernel_rfl) (by kernel_rfl) (by kernel_rfl) (fun _ _ _ h => h) (Or.inl ⟨by rfl, fun w hw => by obtain z0 := hw; go_simp⟩) hHd1 ?_
            simp only [Act.put, List.getElem_toArray, List.getElem_cons_zero, List.getElem_cons_succ, List.setIfInBounds_toArray, List.set_cons_zero, List.set_cons_succ]
            refine wpAnyH_ready (rs := [7]) (by kernel_rfl) (by simp) ?_
            refine AllReadyH.cons rfl (fun K hK => ?_) AllReadyH.nil
            go_simp
            refine hK.out _ _ hHd1 (fun _ => ?_)
            clear hK K
            try simp only [Act.put, List.getElem_toArray, List.getElem_cons_zero, List.getElem_cons_succ, List.setIfInBounds_toArray, List.set_cons_zero, List.set_cons_succ]
            refine wpAnyH_done (by kernel_rfl) ?_ _
            go_wp2_with fail
            refine (pick_r w.heap.size a n' c' (q + 1 + 1 + 1) 10 _ hr11 (by omega)).mono ?_
            rintro e wt1 ⟨⟨y, rfl, y0, y1⟩, hrt1, hgt1⟩
            have bet1 := be11.trans (grown_below hgt1 be11.size (fun g e => by cases e; omega))
            by_cases hy : y = 0
            · subst hy
              go_wp2_with fail
              refine (pick_r w.heap.size a n' c' (q + 1 + 1 + 1 + 1) 10 _ hrt1 (by omega)).mono ?_
              rintro e wt2 ⟨⟨z, rfl, z0, z1⟩, hrt2, hgt2⟩
              have bet2 := bet1.trans (grown_below hgt2 bet1.size (fun g e => by cases e; omega))
              go_wp2
              refine bodyPost_ret (v := .tuple #[.string (V ++ U), .int .i64 z]) (by simp [results, Tryd.results12, go_sem]) rfl ?_
              exact ⟨⟨_, _, rfl, by first | omega | (simp only [ByteArray.size_append]; omega)⟩, bet2⟩
            · go_wp2
              refine bodyPost_ret (v := .tuple #[.string (V ++ U), .int .i64 (wn : Int)]) (by simp [results, Tryd.results12, go_sem]) rfl ?_
              exact ⟨⟨_, _, rfl, by first | omega | (simp only [ByteArray.size_append]; omega)⟩, bet1⟩
          · refine step_call (by rfl) 21 #[.pointer (some ⟨w.heap.size, 0, none⟩), .int .i64 3] (by go_simp) (pick_r w.heap.size a n' c' (q + 1 + 1) 3 _ hr8.drew (by omega)) ?_
            rintro e w9 ⟨⟨y', rfl, y0, y1⟩, hr9, hg9⟩
            refine ⟨_, rfl, ?_⟩
            obtain ⟨y, rfl⟩ : ∃ k : Nat, y' = (k : Int) := ⟨y'.toNat, by omega⟩
            have hy3 : y < 3 := by omega
            clear y0 y1
            have be9 := (be8.trans ((Below.refl _ _).drew.mono be8.size)).trans (grown_below hg9 be8.size (fun g e => by cases e; omega))
            have HF9 := hid (HF8.out.drew.grown (by exact hs8) hg9 (fun e => by injection e with e; omega))
            have hs9 : G < w9.heap.size := Nat.lt_of_lt_of_le hs8 hg9.size
            have hX9 : xs.getD x 0 = X := by have h1 := HF8.out.cell x (by omega); rw [cx] at h1; injection h1 with h1; injection h1 with _ h1; exact h1.symm
            have hyw : IntKind.i64.wrap (1 + (y : Int)) = 1 + (y : Int) := wrap_i64_id _ (by omega) (by omega)
            have hyu : IntKind.u8.wrap (1 + (y : Int)) = 1 + (y : Int) := by simp [IntKind.wrap, IntKind.bits, IntKind.signed]; omega
            obtain ⟨Y, hY⟩ : ∃ Y, bits .xor .u8 X (1 + (y : Int)) = Y := ⟨_, rfl⟩
            have HX9 := hid hX9
            refine hK.out _ _ hHeld (fun _ => ?_)
            clear hK K
            try simp only [Act.put, List.getElem_toArray, List.getElem_cons_zero, List.getElem_cons_succ, List.setIfInBounds_toArray, List.set_cons_zero, List.set_cons_succ]
            refine wpAnyH_take (i := 8) (v := .int .i64 (1 + (y : Int))) rfl (by kernel_rfl) (by kernel_rfl) (by kernel_rfl) (fun _ _ _ h => h) (Or.inl ⟨by rfl, fun w hw => by obtain z0 := hw; go_simp⟩) hHeld ?_
            simp only [Act.put, List.getElem_toArray, List.getElem_cons_zero, List.getElem_cons_succ, List.setIfInBounds_toArray, List.set_cons_zero, List.set_cons_succ]
            refine wpAnyH_take (i := 9) (v := .int .u8 (1 + (y : Int))) rfl (by kernel_rfl) (by kernel_rfl) (by kernel_rfl) (fun _ _ _ h => h) (Or.inl ⟨by rfl, fun w hw => by obtain z0 := hw; go_simp⟩) hHeld ?_
            simp only [Act.put, List.getElem_toArray, List.getElem_cons_zero, List.getElem_cons_succ, List.setIfInBounds_toArray, List.set_cons_zero, List.set_cons_succ]
            refine wpAnyH_ready (rs := [5]) (by kernel_rfl) (by simp) ?_
            refine AllReadyH.cons rfl (fun K hK => ?_) AllReadyH.nil
            have cx9 := HF9.out.cell x (by omega)
            rw [hX9] at cx9
            go_simp
            refine hK.out _ _ hHeld (fun _ => ?_)
            clear hK K
            try simp only [Act.put, List.getElem_toArray, List.getElem_cons_zero, List.getElem_cons_succ, List.setIfInBounds_toArray, List.set_cons_zero, List.set_cons_succ]
            refine wpAnyH_take (i := 10) (v := .int .u8 Y) rfl (by kernel_rfl) (by kernel_rfl) (by kernel_rfl) (fun _ _ _ h => h) (Or.inl ⟨by rfl, fun w hw => by obtain z0 := hw; go_simp⟩) hHeld ?_
            simp only [Act.put, List.getElem_toArray, List.getElem_cons_zero, List.getElem_cons_succ, List.setIfInBounds_toArray, List.set_cons_zero, List.set_cons_succ]
            refine wpAnyH_take (i := 11) (v := .pointer (some ⟨G, x, none⟩)) rfl (by kernel_rfl) (by kernel_rfl) (by kernel_rfl) (fun _ _ _ h => h) (Or.inl ⟨by rfl, fun w hw => by obtain z0 := hw; go_simp⟩) hHeld ?_
            simp only [Act.put, List.getElem_toArray, List.getElem_cons_zero, List.getElem_cons_succ, List.setIfInBounds_toArray, List.set_cons_zero, List.set_cons_succ]
            refine wpAnyH_ready (rs := [12]) (by kernel_rfl) (by simp) ?_
            refine AllReadyH.cons rfl (fun K hK => ?_) AllReadyH.nil
            have cx10 := HF9.out.cell x (by omega)
            have cf10 := HF9.out.froz x (by omega)
            go_simp
            refine hK.out _ _ hHeld (fun _ => ?_)
            clear hK K
            try simp only [Act.put, List.getElem_toArray, List.getElem_cons_zero, List.getElem_cons_succ, List.setIfInBounds_toArray, List.set_cons_zero, List.set_cons_succ]
            refine wpAnyH_done (by kernel_rfl) ?_ _
            have HF10 := hid (HF9.out.set x (by omega) Y)
            have hr10 : Rdr (w9.setCell ⟨G, x, none⟩ (.int .u8 Y)) w.heap.size a n' c' (q + 1 + 1 + 1) := hr9.far _ (by show G ≠ w.heap.size; omega) (fun g o ea e0 => by have := hr9.lts.2 g o ea e0; have hgg := HGA.out g o ea e0; show g ≠ G; omega) _
            have be10 : Below w.heap.size w (w9.setCell ⟨G, x, none⟩ (.int .u8 Y)) := be9.setCell (by show w.heap.size ≤ G; omega) _
            have hs10 : G < (w9.setCell ⟨G, x, none⟩ (.int .u8 Y)).heap.size := by rw [World.size_setCell]; exact hs9
            obtain ⟨w10, e_w10⟩ : ∃ z, z = w9.setCell ⟨G, x, none⟩ (.int .u8 Y) := ⟨_, rfl⟩
            rw [← e_w10] at HF10 hr10 be10 hs10 ⊢
            clear e_w10 cx10 cf10 HF9 hr9 be9 hY HF8
            obtain ⟨ys, e_ys⟩ : ∃ z, z = xs.set x Y := ⟨_, rfl⟩
            have hyl : ys.length = N := by rw [e_ys, List.length_set]; exact hxl
            rw [← e_ys] at HF10
            clear e_ys
            obtain ⟨U, e_U⟩ : ∃ U, U = strOfNums ys := ⟨_, rfl⟩
            have hUs : U.size = N := by rw [e_U, strOfNums_size]; exact hyl
            have HCV : Hid (∀ wx, Fm wx G ys → (convert 28 9 (.slice (some ⟨G, 0, none⟩) N cap)).run Tryd.prog wx = .ok (.string U) wx) := fun wx hx => by have := bytes_back wx G cap ys hx; rwa [hyl, ← e_U] at this
            clear e_U
            have hSz : (sumN U wn).size = wn := sumN_size U wn
            have HSM := hid (fun wx => sum_s U wx wn (by omega) hw1 hw2)
            obtain ⟨V, e_V⟩ : ∃ V, V = sumN U wn := ⟨_, rfl⟩
            rw [← e_V] at hSz HSM
            clear e_V
            have z2 : ¬ (9223372036854775807 < V.size + U.size) := by omega
            have z3 : ¬ (9223372036854775807 < wn + N) := by omega
            go_wp2_with fail
            refine wp_region_held_drew (S := fun w' => (convert 28 9 (.slice (some ⟨G, 0, none⟩) N cap)).run Tryd.prog w' = .ok (.string U) w') (by kernel_rfl) (HCV.out _ HF10.out.drew) (fun hHeld => ?_)
            refine wpAnyH_take (i := 0) (v := .slice (some ⟨G, 0, none⟩) N cap) rfl (by kernel_rfl) (by kernel_rfl) (by kernel_rfl) (fun _ _ _ h => h) (Or.inl ⟨by rfl, fun w hw => by obtain z0 := hw; go_simp⟩) hHeld ?_
            simp only [Act.put, List.getElem_toArray, List.getElem_cons_zero, List.getElem_cons_succ, List.setIfInBounds_toArray, List.set_cons_zero, List.set_cons_succ]
            refine wpAnyH_take (i := 1) (v := .string U) rfl (by kernel_rfl) (by kernel_rfl) (by kernel_rfl) (fun _ _ _ h => h) (Or.inl ⟨by rfl, fun w hw => by obtain z0 := hw; go_simp⟩) hHeld ?_
            simp only [Act.put, List.getElem_toArray, List.getElem_cons_zero, List.getElem_cons_succ, List.setIfInBounds_toArray, List.set_cons_zero, List.set_cons_succ]
            refine wpAnyH_take (i := 2) (v := .int .i64 (wn : Int)) rfl (by kernel_rfl) (by kernel_rfl) (by kernel_rfl) (fun _ _ _ h => h) (Or.inl ⟨by rfl, fun w hw => by obtain z0 := hw; go_simp⟩) hHeld ?_
            simp only [Act.put, List.getElem_toArray, List.getElem_cons_zero, List.getElem_cons_succ, List.setIfInBounds_toArray, List.set_cons_zero, List.set_cons_succ]
            refine wpAnyH_take (i := 4) (v := .slice (some ⟨G, 0, none⟩) N cap) rfl (by kernel_rfl) (by kernel_rfl) (by kernel_rfl) (fun _ _ _ h => h) (Or.inl ⟨by rfl, fun w hw => by obtain z0 := hw; go_simp⟩) hHeld ?_
            simp only [Act.put, List.getElem_toArray, List.getElem_cons_zero, List.getElem_cons_succ, List.setIfInBounds_toArray, List.set_cons_zero, List.set_cons_succ]
            refine wpAnyH_take (i := 5) (v := .string U) rfl (by kernel_rfl) (by kernel_rfl) (by kernel_rfl) (fun _ _ _ h => h) (Or.inl ⟨by rfl, fun w hw => by obtain z0 := hw; go_simp⟩) hHeld ?_
            simp only [Act.put, List.getElem_toArray, List.getElem_cons_zero, List.getElem_cons_succ, List.setIfInBounds_toArray, List.set_cons_zero, List.set_cons_succ]
            refine wpAnyH_ready (rs := [3]) (by kernel_rfl) (by simp) ?_
            refine AllReadyH.cons rfl (fun K hK => ?_) AllReadyH.nil
            refine step_call (by rfl) 27 #[.string U, .int .i64 (wn : Int)] (by go_simp) (HSM.out _) ?_
            rintro e w11 ⟨rfl, hb11⟩
            refine ⟨_, rfl, ?_⟩
            have hr11 := hr10.drew.below hb11
            have be11 := (be10.trans ((Below.refl _ _).drew.mono be10.size)).trans (hb11.mono be10.size)
            have hF11 := HF10.out.drew.below hb11 (by exact hs10)
            refine hK.out _ _ (HCV.out _ hF11) (fun hHd1 => ?_)
            clear hK K
            try simp only [Act.put, List.getElem_toArray, List.getElem_cons_zero, List.getElem_cons_succ, List.setIfInBounds_toArray, List.set_cons_zero, List.set_cons_succ]
            refine wpAnyH_take (i := 6) (v := .string (V ++ U)) rfl (by kernel_rfl) (by kernel_rfl) (by kernel_rfl) (fun _ _ _ h => h) (Or.inl ⟨by rfl, fun w hw => by obtain z0 := hw; go_simp⟩) hHd1 ?_
            simp only [Act.put, List.getElem_toArray, List.getElem_cons_zero, List.getElem_cons_succ, List.setIfInBounds_toArray, List.set_cons_zero, List.set_cons_succ]
            refine wpAnyH_ready (rs := [7]) (by kernel_rfl) (by simp) ?_
            refine AllReadyH.cons rfl (fun K hK => ?_) AllReadyH.nil
            go_simp
            refine hK.out _ _ hHd1 (fun _ => ?_)
            clear hK K
            try simp only [Act.put, List.getElem_toArray, List.getElem_cons_zero, List.getElem_cons_succ, List.setIfInBounds_toArray, List.set_cons_zero, List.set_cons_succ]
            refine wpAnyH_done (by kernel_rfl) ?_ _
            go_wp2_with fail
            refine (pick_r w.heap.size a n' c' (q + 1 + 1 + 1) 10 _ hr11 (by omega)).mono ?_
            rintro e wt1 ⟨⟨y, rfl, y0, y1⟩, hrt1, hgt1⟩
            have bet1 := be11.trans (grown_below hgt1 be11.size (fun g e => by cases e; omega))
            by_cases hy : y = 0
            · subst hy
              go_wp2_with fail
              refine (pick_r w.heap.size a n' c' (q + 1 + 1 + 1 + 1) 10 _ hrt1 (by omega)).mono ?_
              rintro e wt2 ⟨⟨z, rfl, z0, z1⟩, hrt2, hgt2⟩
              have bet2 := bet1.trans (grown_below hgt2 bet1.size (fun g e => by cases e; omega))
              go_wp2
              refine bodyPost_ret (v := .tuple #[.string (V ++ U), .int .i64 z]) (by simp [results, Tryd.results12, go_sem]) rfl ?_
              exact ⟨⟨_, _, rfl, by first | omega | (simp only [ByteArray.size_append]; omega)⟩, bet2⟩
            · go_wp2
              refine bodyPost_ret (v := .tuple #[.string (V ++ U), .int .i64 (wn : Int)]) (by simp [results, Tryd.results12, go_sem]) rfl ?_
              exact ⟨⟨_, _, rfl, by first | omega | (simp only [ByteArray.size_append]; omega)⟩, bet1⟩
        · go_wp2_with (first | (go_at_call 13; refine (width_s _ _).mono ?_; rw [hd]; rintro e wz ⟨rfl, hwz⟩; rw [hwz]; clear hwz wz))
          refine (pick_r w.heap.size a n' c' (q + 1) 10 _ hr7 (by omega)).mono ?_
          rintro e wt1 ⟨⟨y, rfl, y0, y1⟩, hrt1, hgt1⟩
          have bet1 := be7.trans (grown_below hgt1 be7.size (fun g e => by cases e; omega))
          by_cases hy : y = 0
          · subst hy
            go_wp2_with fail
            refine (pick_r w.heap.size a n' c' (q + 1 + 1) 10 _ hrt1 (by omega)).mono ?_
            rintro e wt2 ⟨⟨z, rfl, z0, z1⟩, hrt2, hgt2⟩
            have bet2 := bet1.trans (grown_below hgt2 bet1.size (fun g e => by cases e; omega))
            go_wp2
            refine bodyPost_ret (v := .tuple #[.string s, .int .i64 z]) (by simp [results, Tryd.results12, go_sem]) rfl ?_
            exact ⟨⟨_, _, rfl, by first | omega | (simp only [ByteArray.size_append]; omega)⟩, bet2⟩
          · go_wp2
            refine bodyPost_ret (v := .tuple #[.string s, .int .i64 wd]) (by simp [results, Tryd.results12, go_sem]) rfl ?_
            exact ⟨⟨_, _, rfl, by first | omega | (simp only [ByteArray.size_append]; omega)⟩, bet1⟩
      · have hd : decide (1 ≤ wd ∧ wd ≤ 8) = false := decide_eq_false hwd
        go_wp2_with (first | (go_at_call 13; refine (width_s _ _).mono ?_; rw [hd]; rintro e wz ⟨rfl, hwz⟩; rw [hwz]; clear hwz wz))
        refine (pick_r w.heap.size a n' c' (q + 1) 10 _ hr7 (by omega)).mono ?_
        rintro e wt1 ⟨⟨y, rfl, y0, y1⟩, hrt1, hgt1⟩
        have bet1 := be7.trans (grown_below hgt1 be7.size (fun g e => by cases e; omega))
        by_cases hy : y = 0
        · subst hy
          go_wp2_with fail
          refine (pick_r w.heap.size a n' c' (q + 1 + 1) 10 _ hrt1 (by omega)).mono ?_
          rintro e wt2 ⟨⟨z, rfl, z0, z1⟩, hrt2, hgt2⟩
          have bet2 := bet1.trans (grown_below hgt2 bet1.size (fun g e => by cases e; omega))
          go_wp2
          refine bodyPost_ret (v := .tuple #[.string s, .int .i64 z]) (by simp [results, Tryd.results12, go_sem]) rfl ?_
          exact ⟨⟨_, _, rfl, by first | omega | (simp only [ByteArray.size_append]; omega)⟩, bet2⟩
        · go_wp2
          refine bodyPost_ret (v := .tuple #[.string s, .int .i64 wd]) (by simp [results, Tryd.results12, go_sem]) rfl ?_
          exact ⟨⟨_, _, rfl, by first | omega | (simp only [ByteArray.size_append]; omega)⟩, bet1⟩
    · have hv' : ¬ v = 0 := hv
      go_wp2_with fail
      refine (pick_r w.heap.size a n' c' (q + 1) 10 _ hr7 (by omega)).mono ?_
      rintro e wt1 ⟨⟨y, rfl, y0, y1⟩, hrt1, hgt1⟩
      have bet1 := be7.trans (grown_below hgt1 be7.size (fun g e => by cases e; omega))
      by_cases hy : y = 0
      · subst hy
        go_wp2_with fail
        refine (pick_r w.heap.size a n' c' (q + 1 + 1) 10 _ hrt1 (by omega)).mono ?_
        rintro e wt2 ⟨⟨z, rfl, z0, z1⟩, hrt2, hgt2⟩
        have bet2 := bet1.trans (grown_below hgt2 bet1.size (fun g e => by cases e; omega))
        go_wp2
        refine bodyPost_ret (v := .tuple #[.string s, .int .i64 z]) (by simp [results, Tryd.results12, go_sem]) rfl ?_
        exact ⟨⟨_, _, rfl, by first | omega | (simp only [ByteArray.size_append]; omega)⟩, bet2⟩
      · go_wp2
        refine bodyPost_ret (v := .tuple #[.string s, .int .i64 wd]) (by simp [results, Tryd.results12, go_sem]) rfl ?_
        exact ⟨⟨_, _, rfl, by first | omega | (simp only [ByteArray.size_append]; omega)⟩, bet1⟩
end Go.Proofs.YtnmaknnnmjfhkacDoor
