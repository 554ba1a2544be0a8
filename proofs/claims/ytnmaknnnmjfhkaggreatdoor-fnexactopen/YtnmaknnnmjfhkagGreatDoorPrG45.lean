import Derived.Test.YtnmaknnnmjfhkagGreatDoorPrG44
import Derived.Test.YtnmaknnnmjfhkagGreatDoorPrG43
set_option maxHeartbeats 16000000
set_option maxRecDepth 8000
namespace Go.Proofs.YtnmaknnnmjfhkagGreatDoor
open Go.RowKit
theorem form_i_no (k l m : Int) (p : ByteArray) (n : Int) (w : World) (hp : p.size ≤ 1048576) (hok : pageOk k l m p n = false) :
    Calls Tryz.prog 228 #[pageV k l m p, .int .i64 n] w fun e w' => e = .returned (.string ByteArray.empty) ∧ Below w.heap.size w w' := by
  go_enter Tryz.func228, Tryz.ntmps228
  go_wp2_with (go_at_call 244; refine (ok_i k l m p n _ hp).mono ?_; rw [hok]; rintro e w1 ⟨rfl, hb1⟩)
  go_ret
  exact ⟨rfl, ((Below.refl _ _).alloc (Nat.le_refl _) _).trans (hb1.mono (by simp))⟩
set_option maxRecDepth 4000 in
set_option maxHeartbeats 16000000 in
theorem form_i (k l m : Int) (p : ByteArray) (n : Nat) (w : World) (hok : pageOk k l m p n = true) :
    Calls Tryz.prog 228 #[pageV k l m p, .int .i64 (n : Int)] w fun e w' => e = .returned (.string (pageForm k l m p n)) ∧ Below w.heap.size w w' := by
  have hok' := of_decide_eq_true (by unfold pageOk at hok; exact hok)
  obtain ⟨hn1, hn2, hk1, hk2, hl1, hl2, hm1, hm2, hp, _⟩ := hok'
  go_enter Tryz.func228, Tryz.ntmps228
  go_wp2_with (go_at_call 244; refine (ok_i k l m p n _ (by omega)).mono ?_; rw [hok]; rintro e w1 ⟨rfl, hb1⟩; obtain ⟨q, q0, q1, q2, q3, hb2⟩ := keep4 (W := w) (v0 := .int .i64 k) (v1 := .int .i64 l) (v2 := .int .i64 m) (v3 := .string p) hb1 ⟨by simp, by simp, by simp, by simp, by simp, (Below.refl _ _).alloc (Nat.le_refl _) _⟩; clear hb1)
  refine (fill_i k l m p n _ hok).mono ?_
  rintro e w2 ⟨rfl, hb3⟩
  clear q q0 q1 q2 q3
  have hb4 := hb2.trans (hb3.mono hb2.size)
  clear hb2 hb3
  obtain ⟨xs, HX⟩ : ∃ xs, Hid (xs = nums (pageForm k l m p n)) := ⟨_, hide rfl⟩
  have hln : xs.length = 64 := by rw [HX.out, nums_length]; exact pageForm_size k l m p n (by omega)
  have hsz : (xs.map (Value.int .u8)).toArray.size = 64 := by simp [hln]
  rw [← HX.out]
  go_wp2_with (refine wpList_store_new rfl 267 _ _ rfl xs rfl rfl _ _ (.int .u8 0) (by rw [hln]; rfl) (by rw [hln]; kernel_rfl) ?_; intro wx hfm hbx _; have hcv := hfm.text (P := Tryz.prog) 47 5 9 Tryz.underlying47 Tryz.underlying5 Tryz.underlying9 0 64 64 (by omega); rw [List.drop_zero, List.take_of_length_le (by omega)] at hcv; clear hfm)
  go_ret
  refine ⟨ret_str ?_, hb4.trans (hbx.mono hb4.size)⟩
  rw [HX.out, strOfNums_nums]
theorem form_i_any (k l m : Int) (p : ByteArray) (n : Int) (w : World) (hp : p.size ≤ 1048576) :
    Calls Tryz.prog 228 #[pageV k l m p, .int .i64 n] w fun e w' => e = .returned (.string (formOf k l m p n)) ∧ Below w.heap.size w w' := by
  unfold formOf
  cases h : pageOk k l m p n with
  | true =>
    have hd := of_decide_eq_true (by unfold pageOk at h; exact h)
    have hn : 1 ≤ n := hd.1
    obtain ⟨j, rfl⟩ : ∃ j : Nat, n = (j : Int) := ⟨n.toNat, by omega⟩
    rw [if_pos rfl, Int.toNat_natCast]
    exact form_i k l m p j w h
  | false => rw [if_neg (by simp)]; exact form_i_no k l m p n w hp h
end Go.Proofs.YtnmaknnnmjfhkagGreatDoor

namespace Go.Proofs.YtnmaknnnmjfhkagGreatDoor
open Go.RowKit
set_option maxRecDepth 4000
set_option linter.unusedVariables false
set_option linter.unusedSimpArgs false
@[reducible] def rootV (t h f l : Int) : Value := .agg #[.int .i64 t, .int .i64 h, .int .i64 f, .int .i64 l]
abbrev rtOk (h f : Int) : Prop := 0 ≤ h ∧ h ≤ 1 ∧ 1 ≤ f ∧ f ≤ 999999000
def rtPart (h f : Int) : ByteArray := strOfNums (be 1 h) ++ strOfNums (be 4 f)
def rtForm (t h f l n : Int) : ByteArray := if rtOk h f then formOf 4 l t (rtPart h f) n else ByteArray.empty
theorem half_i (h : Int) (w : World) : Calls Tryz.prog 223 #[.int .i64 h] w fun e w' => e = .returned (.bool (decide (0 ≤ h ∧ h ≤ 1))) ∧ w' = w := by
  have hh : decide (0 ≤ h ∧ h ≤ 1) = (decide (h = 0) || decide (h = 1)) := by rw [Bool.eq_iff_iff]; simp; omega
  rw [hh]
  go_enter Tryz.func223, Tryz.ntmps223
  by_cases h1 : h = 0
  · subst h1; go_wp2; go_ret; exact ⟨rfl, rfl⟩
  · by_cases h2 : h = 1
    · subst h2; go_wp2; go_ret; exact ⟨rfl, rfl⟩
    · go_wp2; go_ret; simp [h1, h2]
theorem first_i (f : Int) (w : World) : Calls Tryz.prog 224 #[.int .i64 f] w fun e w' => e = .returned (.bool (decide (1 ≤ f ∧ f ≤ 999999000))) ∧ w' = w := by
  go_enter Tryz.func224, Tryz.ntmps224
  by_cases h1 : 1 ≤ f <;> by_cases h2 : f ≤ 999999000 <;> (go_wp2; go_ret; simp [h1, h2])
theorem rootpage_s_no (t h f l n : Int) (w : World) (hno : ¬ rtOk h f) : Calls Tryz.prog 142 #[rootV t h f l, .int .i64 n] w fun e w' => e = .returned (.string ByteArray.empty) ∧ Below w.heap.size w w' := by
  have hb0 : ∀ o, Below w.heap.size w (w.alloc o) := fun o => (Below.refl _ _).alloc (Nat.le_refl _) _
  unfold rtOk at hno
  go_enter Tryz.func142, Tryz.ntmps142
  by_cases h1 : 0 ≤ h <;> by_cases h2 : h ≤ 1 <;> by_cases h3 : 1 ≤ f <;> by_cases h4 : f ≤ 999999000 <;> first | (exfalso; omega) | (clear hno; go_wp2; go_ret; exact ⟨rfl, hb0 _⟩)
set_option maxHeartbeats 16000000 in
theorem rootpage_s_ok (t h f l n : Int) (w : World) (hok : rtOk h f) : Calls Tryz.prog 142 #[rootV t h f l, .int .i64 n] w fun e w' => e = .returned (.string (formOf 4 l t (rtPart h f) n)) ∧ Below w.heap.size w w' := by
  obtain ⟨h1, h2, h3, h4⟩ := hok
  obtain ⟨A, hA⟩ : ∃ A, strOfNums (be 1 h) = A := ⟨_, rfl⟩
  obtain ⟨B, hB⟩ : ∃ B, strOfNums (be 4 f) = B := ⟨_, rfl⟩
  have zA : A.size = 1 := by rw [← hA, strOfNums_size, be_length]
  have zB : B.size = 4 := by rw [← hB, strOfNums_size, be_length]
  have HP : Hid (rtPart h f = A ++ B) := by show _ = _; unfold rtPart; rw [hA, hB]
  have numA := fun wx => num_s' h 1 1 rfl wx (by omega) (by omega) (by omega)
  have numB := fun wx => num_s' f 4 4 rfl wx (by omega) (by omega) (by omega)
  simp only [hA] at numA
  simp only [hB] at numB
  rw [HP.out]
  have hz : (A ++ B).size ≤ 1048576 := by simp only [ByteArray.size_append]; omega
  go_enter Tryz.func142, Tryz.ntmps142
  go_wp2_with fail
  have hS : w.heap.size < (w.alloc (.cells #[.int .i64 t, .int .i64 h, .int .i64 f, .int .i64 l] 28)).heap.size ∧ (w.alloc (.cells #[.int .i64 t, .int .i64 h, .int .i64 f, .int .i64 l] 28)).cell? ⟨w.heap.size, 0, none⟩ = some (.int .i64 t) ∧ (w.alloc (.cells #[.int .i64 t, .int .i64 h, .int .i64 f, .int .i64 l] 28)).cell? ⟨w.heap.size, 1, none⟩ = some (.int .i64 h) ∧ (w.alloc (.cells #[.int .i64 t, .int .i64 h, .int .i64 f, .int .i64 l] 28)).cell? ⟨w.heap.size, 2, none⟩ = some (.int .i64 f) ∧ (w.alloc (.cells #[.int .i64 t, .int .i64 h, .int .i64 f, .int .i64 l] 28)).cell? ⟨w.heap.size, 3, none⟩ = some (.int .i64 l) ∧ Below w.heap.size w (w.alloc (.cells #[.int .i64 t, .int .i64 h, .int .i64 f, .int .i64 l] 28)) := ⟨by simp, by simp, by simp, by simp, by simp, (Below.refl _ _).alloc (Nat.le_refl _) _⟩
  have HS := hide hS
  clear hS
  go_region_held3 (fun w' => w.heap.size < w'.heap.size ∧ w'.cell? ⟨w.heap.size, 0, none⟩ = some (.int .i64 t) ∧ w'.cell? ⟨w.heap.size, 1, none⟩ = some (.int .i64 h) ∧ w'.cell? ⟨w.heap.size, 2, none⟩ = some (.int .i64 f) ∧ w'.cell? ⟨w.heap.size, 3, none⟩ = some (.int .i64 l) ∧ Below w.heap.size w w')
    (first | assumption | exact keep4 (below_drewN (Below.refl _ _) 1) HS.out | exact keep4 (by assumption) (by assumption))
    (first | (go_at_call_of 144 h; refine (numA _).mono ?_; rintro e w2 ⟨rfl, hb2⟩) | (go_at_call_of 144 f; refine (numB _).mono ?_; rintro e w3 ⟨rfl, hb3⟩) | (go_at_call 55; refine (form_s_any 4 l t (A ++ B) n _ hz).mono ?_; rintro e w4 ⟨rfl, hb4⟩))
  rename_i hSl
  have hbl := hSl.2.2.2.2.2
  clear hSl
  go_wp2
  go_ret
  exact ⟨rfl, hbl⟩
theorem rootpage_s_any (t h f l n : Int) (w : World) : Calls Tryz.prog 142 #[rootV t h f l, .int .i64 n] w fun e w' => e = .returned (.string (rtForm t h f l n)) ∧ Below w.heap.size w w' := by
  unfold rtForm
  by_cases hok : rtOk h f
  · rw [if_pos hok]; exact rootpage_s_ok t h f l n w hok
  · rw [if_neg hok]; exact rootpage_s_no t h f l n w hok
end Go.Proofs.YtnmaknnnmjfhkagGreatDoor
