import Derived.Test.YtnmaknnnmjfhkaeDoorPrPage1
import Derived.Test.YtnmaknnnmjfhkaeDoorPrG32
set_option maxHeartbeats 16000000
set_option maxRecDepth 8000
namespace Go.Proofs.YtnmaknnnmjfhkaeDoor
open Go.RowKit
set_option maxRecDepth 4000
theorem hide {p : Prop} (h : p) : Hid p := h
def strOf : Value → ByteArray
  | .string s => s
  | _ => ByteArray.empty
theorem head_str (k l m : Int) (p : ByteArray) : strOfNums (be 1 k) ++ strOfNums (be 2 l) ++ strOfNums (be 4 m) ++ strOfNums (be 1 (p.size : Int)) ++ p = strOfNums (pageHead k l m p ++ List.replicate 0 0) := by
  rw [List.replicate_zero, List.append_nil]
  unfold pageHead
  rw [strOfNums_append, strOfNums_append, strOfNums_append, strOfNums_append, strOfNums_nums]
theorem zero_str (xs : List Int) (j : Nat) : strOfNums (xs ++ List.replicate j 0) ++ ⟨#[0]⟩ = strOfNums (xs ++ List.replicate (j + 1) 0) := by
  rw [List.replicate_succ', ← List.append_assoc, strOfNums_append _ [0]]
  rfl
theorem num_s' (v : Int) (c : Nat) (ci : Int) (hci : ci = (c : Int)) (w : World) (h0 : 0 ≤ v) (h1 : v ≤ 9223372036854775807) (hc : c ≤ 8) :
    Calls Tryd.prog 71 #[.int .i64 v, .int .i64 ci] w fun e w' => e = .returned (.string (strOfNums (be c v))) ∧ Below w.heap.size w w' := by
  subst hci; exact num_s v c w h0 h1 hc
theorem keep4 {W : World} {v0 v1 v2 v3 : Value} {w w' : World} (hb : Below w.heap.size w w')
    (h : W.heap.size < w.heap.size ∧ w.cell? ⟨W.heap.size, 0, none⟩ = some v0 ∧ w.cell? ⟨W.heap.size, 1, none⟩ = some v1 ∧ w.cell? ⟨W.heap.size, 2, none⟩ = some v2 ∧ w.cell? ⟨W.heap.size, 3, none⟩ = some v3 ∧ Below W.heap.size W w) :
    W.heap.size < w'.heap.size ∧ w'.cell? ⟨W.heap.size, 0, none⟩ = some v0 ∧ w'.cell? ⟨W.heap.size, 1, none⟩ = some v1 ∧ w'.cell? ⟨W.heap.size, 2, none⟩ = some v2 ∧ w'.cell? ⟨W.heap.size, 3, none⟩ = some v3 ∧ Below W.heap.size W w' :=
  ⟨Nat.lt_of_lt_of_le h.1 hb.size, (hb.cell (p := ⟨_, 0, none⟩) h.1).trans h.2.1, (hb.cell (p := ⟨_, 1, none⟩) h.1).trans h.2.2.1, (hb.cell (p := ⟨_, 2, none⟩) h.1).trans h.2.2.2.1, (hb.cell (p := ⟨_, 3, none⟩) h.1).trans h.2.2.2.2.1,
    h.2.2.2.2.2.trans (hb.mono (Nat.le_of_lt h.1))⟩
set_option maxHeartbeats 16000000 in
theorem form_s (k l m : Int) (p : ByteArray) (n : Nat) (w : World) (hok : pageOk k l m p n = true) :
    Calls Tryd.prog 36 #[pageV k l m p, .int .i64 (n : Int)] w fun e w' => e = .returned (.string (pageForm k l m p n)) ∧ Below w.heap.size w w' := by
  have hok' := of_decide_eq_true (by unfold pageOk at hok; exact hok)
  obtain ⟨hn1, hn2, hk1, hk2, hl1, hl2, hm1, hm2, hp, _⟩ := hok'
  have z1 : (strOfNums (be 1 k)).size = 1 := by rw [strOfNums_size, be_length]
  have z2 : (strOfNums (be 2 l)).size = 2 := by rw [strOfNums_size, be_length]
  have z3 : (strOfNums (be 4 m)).size = 4 := by rw [strOfNums_size, be_length]
  have z4 : (strOfNums (be 1 (p.size : Int))).size = 1 := by rw [strOfNums_size, be_length]
  have z5 : ¬ (9223372036854775807 < 8 + p.size) := by omega
  go_enter Tryd.func36, Tryd.ntmps36
  go_wp2_with (go_at_call 70; refine (ok_s k l m p n _ (by omega)).mono ?_; rw [hok]; rintro e w1 ⟨rfl, hb1⟩)
  have hS : w.heap.size < w1.heap.size ∧ w1.cell? ⟨w.heap.size, 0, none⟩ = some (.int .i64 k) ∧ w1.cell? ⟨w.heap.size, 1, none⟩ = some (.int .i64 l) ∧ w1.cell? ⟨w.heap.size, 2, none⟩ = some (.int .i64 m) ∧ w1.cell? ⟨w.heap.size, 3, none⟩ = some (.string p) ∧ Below w.heap.size w w1 :=
    keep4 (v0 := .int .i64 k) (v1 := .int .i64 l) (v2 := .int .i64 m) (v3 := .string p) hb1 ⟨by simp, by simp, by simp, by simp, by simp, (Below.refl _ _).alloc (Nat.le_refl _) _⟩
  have HS := hide hS
  clear hS hb1
  go_region_held3 (fun w' => w.heap.size < w'.heap.size ∧ w'.cell? ⟨w.heap.size, 0, none⟩ = some (.int .i64 k) ∧ w'.cell? ⟨w.heap.size, 1, none⟩ = some (.int .i64 l) ∧ w'.cell? ⟨w.heap.size, 2, none⟩ = some (.int .i64 m) ∧ w'.cell? ⟨w.heap.size, 3, none⟩ = some (.string p) ∧ Below w.heap.size w w')
    (first | assumption | exact keep4 (below_drewN (Below.refl _ _) 1) HS.out | exact keep4 (by assumption) (by assumption))
    (first | (go_at_call_of 71 k; refine (num_s' k 1 _ rfl _ (by omega) (by omega) (by omega)).mono ?_; rintro e w2 ⟨rfl, hb2⟩) | (go_at_call_of 71 l; refine (num_s' l 2 _ rfl _ (by omega) (by omega) (by omega)).mono ?_; rintro e w3 ⟨rfl, hb3⟩) | (go_at_call_of 71 m; refine (num_s' m 4 _ rfl _ (by omega) (by omega) (by omega)).mono ?_; rintro e w4 ⟨rfl, hb4⟩) | (go_at_call_of 71 (p.size : Int); refine (num_s' (p.size : Int) 1 _ rfl _ (by omega) (by omega) (by omega)).mono ?_; rintro e w5 ⟨rfl, hb5⟩))
  clear HS
  rename_i hSl
  have hbl := hSl.2.2.2.2.2
  clear hSl
  go_wp2
  go_loop [5] (fun b => ∃ j : Nat, j ≤ 56 - n - p.size ∧ b = .string (strOfNums (pageHead k l m p ++ List.replicate j 0))) (fun b => 64 - (strOf b).size)
  case atStart => exact ⟨0, Nat.zero_le _, by rw [head_str]⟩
  case round =>
    obtain ⟨j, hj, rfl⟩ := hrel
    have hsz : (strOfNums (pageHead k l m p ++ List.replicate j 0)).size = 8 + p.size + j := by rw [strOfNums_size, List.length_append, pageHead_length, List.length_replicate]
    by_cases hlt : j < 56 - n - p.size
    · go_wp2
      go_round
      case rel => exact ⟨j + 1, by omega, by rw [zero_str]⟩
      case measure =>
        rw [zero_str]
        simp only [strOf, strOfNums_size, List.length_append, pageHead_length, List.length_replicate]
        omega
    · have hje : j = 56 - n - p.size := by omega
      subst hje
      have hz6 : (sumN (strOfNums (pageHead k l m p ++ List.replicate (56 - n - p.size) 0)) n).size = n := sumN_size _ _
      have hz7 : ¬ (9223372036854775807 < n + (8 + p.size + (56 - n - p.size))) := by omega
      go_wp2_with (go_at_call 72; refine (sum_s _ _ n (by rw [hsz]; omega) (by omega) (by omega)).mono ?_; rintro e w6 ⟨rfl, hb6⟩)
      go_ret
      exact ⟨rfl, hbl.trans (hb6.mono hbl.size)⟩
theorem form_s_no (k l m : Int) (p : ByteArray) (n : Int) (w : World) (hp : p.size ≤ 1048576) (hok : pageOk k l m p n = false) :
    Calls Tryd.prog 36 #[pageV k l m p, .int .i64 n] w fun e w' => e = .returned (.string ByteArray.empty) ∧ Below w.heap.size w w' := by
  go_enter Tryd.func36, Tryd.ntmps36
  go_wp2_with (go_at_call 70; refine (ok_s k l m p n _ hp).mono ?_; rw [hok]; rintro e w1 ⟨rfl, hb1⟩)
  go_ret
  exact ⟨rfl, ((Below.refl _ _).alloc (Nat.le_refl _) _).trans (hb1.mono (by simp))⟩
end Go.Proofs.YtnmaknnnmjfhkaeDoor

namespace Go.Proofs.YtnmaknnnmjfhkaeDoor
open Go.RowKit
set_option maxRecDepth 4000 in
set_option maxHeartbeats 16000000 in
theorem fill_i (k l m : Int) (p : ByteArray) (n : Nat) (w : World) (hok : pageOk k l m p n = true) :
    Calls Tryd.prog 51 #[pageV k l m p, .int .i64 (n : Int)] w fun e w' => e = .returned (.agg ((nums (pageForm k l m p n)).map (Value.int .u8)).toArray) ∧ Below w.heap.size w w' := by
  have hok' := of_decide_eq_true (by unfold pageOk at hok; exact hok)
  obtain ⟨hn1, hn2, hk1, hk2, hl1, hl2, hm1, hm2, hp, _⟩ := hok'
  have hsl := fun wx => slice_arr_from (P := Tryd.prog) (t := 98) Tryd.underlying98 (fun _ => by kernel_rfl) (w.heap.size + 1 + 1) 0 n (by omega) .i64 (n : Int) rfl wx
  rw [Nat.zero_add] at hsl
  obtain ⟨M, HM⟩ : ∃ M, Hid (M = 64 - n) := ⟨64 - n, hide rfl⟩
  rw [← HM.out] at hsl
  have hM1 : (56 : Int) ≤ (M : Int) := by have := HM.out; omega
  have hM2 : (M : Int) ≤ 63 := by have := HM.out; omega
  have hMa : (1 : Int) ≤ (M : Int) := by omega
  have hMb : (3 : Int) ≤ (M : Int) := by omega
  have hMc : (7 : Int) ≤ (M : Int) := by omega
  have hMd : (8 : Int) ≤ (M : Int) := by omega
  have hwk : IntKind.u64.wrap k = k := wrap_u64_id k (by omega) (by omega)
  have hwl : IntKind.u64.wrap l = l := wrap_u64_id l (by omega) (by omega)
  have hwm : IntKind.u64.wrap m = m := wrap_u64_id m (by omega) (by omega)
  have hwp : IntKind.u64.wrap (p.size : Int) = (p.size : Int) := wrap_u64_id _ (by omega) (by omega)
  have hMe : ¬ (M = 1) := by omega
  have hMf : ¬ (M = 3) := by omega
  have hMg : ¬ (M = 7) := by omega
  go_enter Tryd.func51, Tryd.ntmps51
  go_wp2_with fail
  refine wp_start w (.int .i64 k) (.int .i64 l) (.int .i64 m) (.string p) _ _ _ _ _ rfl rfl ?_
  intro wa hpi hfm
  have hln0 : (List.replicate 64 (0 : Int)).length = 64 := by simp
  obtain ⟨xs0, HX0⟩ : ∃ xs0, Hid (xs0 = List.replicate 64 (0 : Int)) := ⟨_, hide rfl⟩
  rw [← HX0.out] at hfm hln0
  have hfm0 := hfm
  have hpi0 := hpi
  clear hfm hpi
  have HS0 := hide hpi0.toS
  clear hpi0
  go_region_held3 (fun w' => w'.cell? ⟨w.heap.size, 0, none⟩ = some (.int .i64 k) ∧ w'.cell? ⟨w.heap.size, 1, none⟩ = some (.int .i64 l) ∧ w'.cell? ⟨w.heap.size, 2, none⟩ = some (.int .i64 m) ∧ w'.cell? ⟨w.heap.size, 3, none⟩ = some (.string p) ∧ PI w w' (.int .i64 k) (.int .i64 l) (.int .i64 m) (.string p))
    (first | assumption | exact (PI.ofS HS0.out).drew.toS | exact (PI.wrote (PI.ofS (by assumption)) (by assumption)).toS)
    (first | (go_at_call 79; refine (put_any (w.heap.size + 1 + 1) n 1 M k _ (by omega) (by omega) (by omega) (fun i hi => ⟨_, hfm0.drew.cell (n + i) (by rw [hln0]; omega)⟩) (fun i hi => hfm0.drew.froz (n + i) (by rw [hln0]; omega))).mono ?_; rintro e wb ⟨rfl, hw0⟩))
  have hpi1 : PI w wb (.int .i64 k) (.int .i64 l) (.int .i64 m) (.string p) := PI.ofS (by assumption)
  obtain ⟨xs1, HX1, hln1, hfm1⟩ := hfm0.drew.step hln0 hw0 (by rw [be_length]; omega)
  clear HS0 hw0 hfm0 hln0
  go_wp2_with fail
  have HS1 := hide hpi1.toS
  clear hpi1
  go_region_held3 (fun w' => w'.cell? ⟨w.heap.size, 0, none⟩ = some (.int .i64 k) ∧ w'.cell? ⟨w.heap.size, 1, none⟩ = some (.int .i64 l) ∧ w'.cell? ⟨w.heap.size, 2, none⟩ = some (.int .i64 m) ∧ w'.cell? ⟨w.heap.size, 3, none⟩ = some (.string p) ∧ PI w w' (.int .i64 k) (.int .i64 l) (.int .i64 m) (.string p))
    (first | assumption | exact (PI.ofS HS1.out).drew.toS | exact (PI.wrote (PI.ofS (by assumption)) (by assumption)).toS)
    (first | (go_at_call 79; refine (put_any (w.heap.size + 1 + 1) (n + 1) 2 (M - 1) l _ (by omega) (by omega) (by omega) (fun i hi => ⟨_, hfm1.drew.cell (n + 1 + i) (by rw [hln1]; omega)⟩) (fun i hi => hfm1.drew.froz (n + 1 + i) (by rw [hln1]; omega))).mono ?_; rintro e wc ⟨rfl, hw1⟩))
  have hpi2 : PI w wc (.int .i64 k) (.int .i64 l) (.int .i64 m) (.string p) := PI.ofS (by assumption)
  obtain ⟨xs2, HX2, hln2, hfm2⟩ := hfm1.drew.step hln1 hw1 (by rw [be_length]; omega)
  clear HS1 hw1 hfm1 hln1
  go_wp2_with fail
  have HS2 := hide hpi2.toS
  clear hpi2
  go_region_held3 (fun w' => w'.cell? ⟨w.heap.size, 0, none⟩ = some (.int .i64 k) ∧ w'.cell? ⟨w.heap.size, 1, none⟩ = some (.int .i64 l) ∧ w'.cell? ⟨w.heap.size, 2, none⟩ = some (.int .i64 m) ∧ w'.cell? ⟨w.heap.size, 3, none⟩ = some (.string p) ∧ PI w w' (.int .i64 k) (.int .i64 l) (.int .i64 m) (.string p))
    (first | assumption | exact (PI.ofS HS2.out).drew.toS | exact (PI.wrote (PI.ofS (by assumption)) (by assumption)).toS)
    (first | (go_at_call 79; refine (put_any (w.heap.size + 1 + 1) (n + 3) 4 (M - 3) m _ (by omega) (by omega) (by omega) (fun i hi => ⟨_, hfm2.drew.cell (n + 3 + i) (by rw [hln2]; omega)⟩) (fun i hi => hfm2.drew.froz (n + 3 + i) (by rw [hln2]; omega))).mono ?_; rintro e wd ⟨rfl, hw2⟩))
  have hpi3 : PI w wd (.int .i64 k) (.int .i64 l) (.int .i64 m) (.string p) := PI.ofS (by assumption)
  obtain ⟨xs3, HX3, hln3, hfm3⟩ := hfm2.drew.step hln2 hw2 (by rw [be_length]; omega)
  clear HS2 hw2 hfm2 hln2
  go_wp2_with fail
  have HS3 := hide hpi3.toS
  clear hpi3
  go_region_held3 (fun w' => w'.cell? ⟨w.heap.size, 0, none⟩ = some (.int .i64 k) ∧ w'.cell? ⟨w.heap.size, 1, none⟩ = some (.int .i64 l) ∧ w'.cell? ⟨w.heap.size, 2, none⟩ = some (.int .i64 m) ∧ w'.cell? ⟨w.heap.size, 3, none⟩ = some (.string p) ∧ PI w w' (.int .i64 k) (.int .i64 l) (.int .i64 m) (.string p))
    (first | assumption | exact (PI.ofS HS3.out).drew.toS | exact (PI.wrote (PI.ofS (by assumption)) (by assumption)).toS)
    (first | (go_at_call 79; refine (put_any (w.heap.size + 1 + 1) (n + 7) 1 (M - 7) (p.size : Int) _ (by omega) (by omega) (by omega) (fun i hi => ⟨_, hfm3.drew.cell (n + 7 + i) (by rw [hln3]; omega)⟩) (fun i hi => hfm3.drew.froz (n + 7 + i) (by rw [hln3]; omega))).mono ?_; rintro e we ⟨rfl, hw3⟩))
  have hpi4 : PI w we (.int .i64 k) (.int .i64 l) (.int .i64 m) (.string p) := PI.ofS (by assumption)
  obtain ⟨xs4, HX4, hln4, hfm4⟩ := hfm3.drew.step hln3 hw3 (by rw [be_length]; omega)
  clear HS3 hw3 hfm3 hln3
  go_wp2_with fail
  have hM8 : ¬ (M = 8) := by omega
  have hps : p.size ≤ M - 8 := by have := HM.out; omega
  have HW4 := hide (hfm4.drew.copied (n + 8) p (by rw [hln4]; omega))
  have HC4 := hide (hfm4.drew.isSome (n + 8) p.size (by rw [hln4]; omega))
  have HF4 := hide (hfm4.drew.frozen (n + 8) p.size (by rw [hln4]; omega))
  have HS4 := hide hpi4.toS
  clear hpi4
  go_region_held3 (fun w' => w'.cell? ⟨w.heap.size, 0, none⟩ = some (.int .i64 k) ∧ w'.cell? ⟨w.heap.size, 1, none⟩ = some (.int .i64 l) ∧ w'.cell? ⟨w.heap.size, 2, none⟩ = some (.int .i64 m) ∧ w'.cell? ⟨w.heap.size, 3, none⟩ = some (.string p) ∧ PI w w' (.int .i64 k) (.int .i64 l) (.int .i64 m) (.string p))
    (first | assumption | exact (PI.ofS HS4.out).drew.toS | exact (PI.wrote (PI.ofS HS4.out).drew HW4.out).toS)
    (first | (refine step_copy_string (by rfl) _ _ _ _ (by rfl) 5 Tryd.underlying22 (fun _ => by kernel_rfl) (w.heap.size + 1 + 1) (n + 8) (M - 8) (M - 8) (by rfl) p (by rfl) hps HC4.out HF4.out ?_))
  have hpi5 := PI.wrote (PI.ofS HS4.out).drew HW4.out
  obtain ⟨xs5, HX5, hln5, hfm5⟩ := hfm4.drew.step hln4 HW4.out (by rw [nums_length]; omega)
  clear HS4 HW4 HC4 HF4 hfm4 hln4
  obtain ⟨wf, HWF⟩ : ∃ wf, wf = we.drew.setCells (w.heap.size + 1 + 1) (n + 8) (List.map (fun x => Value.int IntKind.u8 (x.toNat : Int)) p.data.toList) := ⟨_, rfl⟩
  rw [← HWF] at hfm5 hpi5 ⊢
  clear HWF
  go_wp2_with fail
  have hs2 := fun wx => slice_arr_to (P := Tryd.prog) (t := 98) Tryd.underlying98 (fun _ => by kernel_rfl) (w.heap.size + 1 + 1) 0 n (by omega) (by omega) .i64 (n : Int) rfl wx
  obtain ⟨bt, HB⟩ : ∃ bt, Hid (bt = strOfNums ((xs5.drop n).take M)) := ⟨_, hide rfl⟩
  have hbt : bt.size = M := by rw [HB.out, strOfNums_size, List.length_take, List.length_drop, hln5]; have := HM.out; omega
  have hF : w.heap.size + 1 + 1 < wf.drew.heap.size := by have := hpi5.size; show _ < wf.heap.size; omega
  have toS8 : ∀ (wx : World) (xs : List Int), xs.length = 64 → (xs.drop n).take M = (xs5.drop n).take M → Fm wx (w.heap.size + 1 + 1) xs → PI w wx (.int .i64 k) (.int .i64 l) (.int .i64 m) (.string p) →
      (convert 22 9 (.slice (some ⟨w.heap.size + 1 + 1, n, none⟩) M M)).run Tryd.prog wx = .ok (.string bt) wx ∧ wx.there (w.heap.size + 1 + 1) 0 64 ∧ PI w wx (.int .i64 k) (.int .i64 l) (.int .i64 m) (.string p) := fun wx xs hx hd hf hp => by
    refine ⟨?_, fun j hj => ⟨?_, ?_⟩, hp⟩
    · rw [hf.text 22 5 9 Tryd.underlying22 Tryd.underlying5 Tryd.underlying9 n M M (by have := HM.out; omega), hd, HB.out]
    · exact hf.isSome 0 64 (by omega) j hj
    · exact hf.frozen 0 64 (by omega) j hj
  have HT := hide toS8
  have HF5 := hide hfm5
  have HP5 := hide hpi5
  clear toS8 hfm5 hpi5
  have hzs : (sumN bt n).size = n := sumN_size _ _
  go_region_held3 (fun w' => (convert 22 9 (.slice (some ⟨w.heap.size + 1 + 1, n, none⟩) M M)).run Tryd.prog w' = .ok (.string bt) w' ∧ w'.there (w.heap.size + 1 + 1) 0 64 ∧ PI w w' (.int .i64 k) (.int .i64 l) (.int .i64 m) (.string p))
    (first | assumption | exact HT.out _ xs5 hln5 rfl HF5.out.drew HP5.out.drew | exact HT.out _ xs5 hln5 rfl (HF5.out.drew.below hbs hF) (HP5.out.drew.below hbs) | exact HT.out _ _ (by rw [spl_length _ _ _ (by rw [nums_length, hzs]; omega)]; exact hln5) (by rw [spl_drop _ _ n (by rw [nums_length, hzs])]) ((HF5.out.drew.below hbs hF).wrote ((HF5.out.drew.below hbs hF).copied 0 (sumN bt n) (by rw [hzs]; omega)) (by rw [nums_length, hzs]; omega)) (PI.wrote (HP5.out.drew.below hbs) ((HF5.out.drew.below hbs hF).copied 0 (sumN bt n) (by rw [hzs]; omega))))
    (first | (go_at_call 80; refine (sum_i bt _ n (by rw [hbt]; omega) (by omega) (by omega)).mono ?_; rintro e wg ⟨rfl, hbs⟩) | (refine step_copy_string (by rfl) _ _ _ _ (by rfl) 5 Tryd.underlying22 (fun _ => by kernel_rfl) (w.heap.size + 1 + 1) 0 n 64 (by rfl) (sumN bt n) (by rfl) (by rw [hzs]; omega) (fun j hj => ((HT.out _ xs5 hln5 rfl (HF5.out.drew.below hbs hF) (HP5.out.drew.below hbs)).2.1 j (by rw [hzs] at hj; omega)).1) (fun j hj => ((HT.out _ xs5 hln5 rfl (HF5.out.drew.below hbs hF) (HP5.out.drew.below hbs)).2.1 j (by rw [hzs] at hj; omega)).2) ?_))
  have hw6 := (HF5.out.drew.below hbs hF).copied 0 (sumN bt n) (by rw [hzs]; omega)
  have hpi6 := PI.wrote (HP5.out.drew.below hbs) hw6
  obtain ⟨xs6, HX6, hln6, hfm6⟩ := (HF5.out.drew.below hbs hF).step hln5 hw6 (by rw [nums_length, hzs]; omega)
  have HR : Hid (xs6 = nums (pageForm k l m p n)) := by
    have h5 := fill_list k l m p n (by omega) HX0.out HX1.out HX2.out HX3.out HX4.out HX5.out
    show xs6 = _
    rw [HX6.out, (form_list k l m p n (by omega) HM.out h5 HB.out).2]
  clear hw6 HF5 HP5 HT hbs hF
  obtain ⟨wh, HWH⟩ : ∃ wh, wh = wg.setCells (w.heap.size + 1 + 1) 0 (List.map (fun x => Value.int IntKind.u8 (x.toNat : Int)) (sumN bt n).data.toList) := ⟨_, rfl⟩
  rw [← HWH] at hfm6 hpi6 ⊢
  clear HWH
  have hsz6 : (xs6.map (Value.int .u8)).toArray.size = 64 := by simp [hln6]
  go_wp2_with (first
    | (refine wpList_load_mid rfl 98 _ rfl (w.heap.size + 1 + 1) 0 rfl (xs6.map (Value.int .u8)) _ hfm6.range Tryd.underlying98 rfl (by rw [List.length_map, hln6]; kernel_rfl) ?_)
    | (refine wpList_store_mid rfl 98 _ _ rfl (w.heap.size + 1) 0 (xs6.map (Value.int .u8)).toArray rfl rfl (by rw [hsz6]; exact hpi6.there) (by rw [hsz6]; kernel_rfl) (all_oneCell_toArray (ints_one xs6)) ?_))
  refine bodyPost_ret (v := .agg (xs6.map (Value.int .u8)).toArray) (results_cell1 (p := 4) Tryd.results51 _ _ (w.heap.size + 1) 0 rfl (xs6.map (Value.int .u8)) _ (World.rangeAt_setCells_same _ _ _ _ (by rw [List.length_map, hln6]; exact hpi6.there)) Tryd.underlying98 rfl (by rw [List.length_map, hln6]; kernel_rfl)) rfl ⟨by rw [HR.out], ?_⟩
  exact below_setCells (by omega) _ _ _ hpi6.bel
def formOf (k l m : Int) (p : ByteArray) (n : Int) : ByteArray := if pageOk k l m p n = true then pageForm k l m p n.toNat else ByteArray.empty
theorem form_s_any (k l m : Int) (p : ByteArray) (n : Int) (w : World) (hp : p.size ≤ 1048576) :
    Calls Tryd.prog 36 #[pageV k l m p, .int .i64 n] w fun e w' => e = .returned (.string (formOf k l m p n)) ∧ Below w.heap.size w w' := by
  unfold formOf
  cases h : pageOk k l m p n with
  | true =>
    have hd := of_decide_eq_true (by unfold pageOk at h; exact h)
    have hn : 1 ≤ n := hd.1
    obtain ⟨j, rfl⟩ : ∃ j : Nat, n = (j : Int) := ⟨n.toNat, by omega⟩
    rw [if_pos rfl, Int.toNat_natCast]
    exact form_s k l m p j w h
  | false => rw [if_neg (by simp)]; exact form_s_no k l m p n w hp h
end Go.Proofs.YtnmaknnnmjfhkaeDoor
