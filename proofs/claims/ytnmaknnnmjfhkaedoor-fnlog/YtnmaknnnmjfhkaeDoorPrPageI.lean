import Derived.Test.YtnmaknnnmjfhkaeDoorPrG35
namespace Go.Proofs.YtnmaknnnmjfhkaeDoor
open Go.RowKit
theorem form_i_no (k l m : Int) (p : ByteArray) (n : Int) (w : World) (hp : p.size ≤ 1048576) (hok : pageOk k l m p n = false) :
    Calls Tryd.prog 15 #[pageV k l m p, .int .i64 n] w fun e w' => e = .returned (.string ByteArray.empty) ∧ Below w.heap.size w w' := by
  go_enter Tryd.func15, Tryd.ntmps15
  go_wp2_with (go_at_call 50; refine (ok_i k l m p n _ hp).mono ?_; rw [hok]; rintro e w1 ⟨rfl, hb1⟩)
  go_ret
  exact ⟨rfl, ((Below.refl _ _).alloc (Nat.le_refl _) _).trans (hb1.mono (by simp))⟩
set_option maxRecDepth 4000 in
set_option maxHeartbeats 1000000 in
theorem form_i (k l m : Int) (p : ByteArray) (n : Nat) (w : World) (hok : pageOk k l m p n = true) :
    Calls Tryd.prog 15 #[pageV k l m p, .int .i64 (n : Int)] w fun e w' => e = .returned (.string (pageForm k l m p n)) ∧ Below w.heap.size w w' := by
  have hok' := of_decide_eq_true (by unfold pageOk at hok; exact hok)
  obtain ⟨hn1, hn2, hk1, hk2, hl1, hl2, hm1, hm2, hp, _⟩ := hok'
  go_enter Tryd.func15, Tryd.ntmps15
  go_wp2_with (go_at_call 50; refine (ok_i k l m p n _ (by omega)).mono ?_; rw [hok]; rintro e w1 ⟨rfl, hb1⟩; obtain ⟨q, q0, q1, q2, q3, hb2⟩ := keep4 (W := w) (v0 := .int .i64 k) (v1 := .int .i64 l) (v2 := .int .i64 m) (v3 := .string p) hb1 ⟨by simp, by simp, by simp, by simp, by simp, (Below.refl _ _).alloc (Nat.le_refl _) _⟩; clear hb1)
  refine (fill_i k l m p n _ hok).mono ?_
  rintro e w2 ⟨rfl, hb3⟩
  clear q q0 q1 q2 q3
  have hb4 := hb2.trans (hb3.mono hb2.size)
  clear hb2 hb3
  obtain ⟨xs, HX⟩ : ∃ xs, Hid (xs = nums (pageForm k l m p n)) := ⟨_, hide rfl⟩
  have hln : xs.length = 64 := by rw [HX.out, nums_length]; exact pageForm_size k l m p n (by omega)
  have hsz : (xs.map (Value.int .u8)).toArray.size = 64 := by simp [hln]
  rw [← HX.out]
  go_wp2_with (refine wpList_store_new rfl 98 _ _ rfl xs rfl rfl _ _ (.int .u8 0) (by rw [hln]; rfl) (by rw [hln]; kernel_rfl) ?_; intro wx hfm hbx _; have hcv := hfm.text (P := Tryd.prog) 22 5 9 Tryd.underlying22 Tryd.underlying5 Tryd.underlying9 0 64 64 (by omega); rw [List.drop_zero, List.take_of_length_le (by omega)] at hcv; clear hfm)
  go_ret
  refine ⟨ret_str ?_, hb4.trans (hbx.mono hb4.size)⟩
  rw [HX.out, strOfNums_nums]
theorem form_i_any (k l m : Int) (p : ByteArray) (n : Int) (w : World) (hp : p.size ≤ 1048576) :
    Calls Tryd.prog 15 #[pageV k l m p, .int .i64 n] w fun e w' => e = .returned (.string (formOf k l m p n)) ∧ Below w.heap.size w w' := by
  unfold formOf
  cases h : pageOk k l m p n with
  | true =>
    have hd := of_decide_eq_true (by unfold pageOk at h; exact h)
    have hn : 1 ≤ n := hd.1
    obtain ⟨j, rfl⟩ : ∃ j : Nat, n = (j : Int) := ⟨n.toNat, by omega⟩
    rw [if_pos rfl, Int.toNat_natCast]
    exact form_i k l m p j w h
  | false => rw [if_neg (by simp)]; exact form_i_no k l m p n w hp h
end Go.Proofs.YtnmaknnnmjfhkaeDoor
