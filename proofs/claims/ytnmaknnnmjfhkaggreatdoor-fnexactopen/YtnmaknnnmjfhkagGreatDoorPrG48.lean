import Derived.Test.YtnmaknnnmjfhkagGreatDoorPrG44
import Derived.Test.YtnmaknnnmjfhkagGreatDoorPrFill
import Derived.Deep.RegionHeld
set_option maxHeartbeats 16000000
set_option maxRecDepth 8000
namespace Go.Proofs.YtnmaknnnmjfhkagGreatDoor
open Go.RowKit
set_option maxRecDepth 4000 in
set_option maxHeartbeats 16000000 in
theorem fill_i (k l m : Int) (p : ByteArray) (n : Nat) (w : World) (hok : pageOk k l m p n = true) :
    Calls Tryz.prog 245 #[pageV k l m p, .int .i64 (n : Int)] w fun e w' => e = .returned (.agg ((nums (pageForm k l m p n)).map (Value.int .u8)).toArray) ∧ Below w.heap.size w w' := by
  have hok' := of_decide_eq_true (by unfold pageOk at hok; exact hok)
  obtain ⟨hn1, hn2, hk1, hk2, hl1, hl2, hm1, hm2, hp, _⟩ := hok'
  have hsl := fun wx => slice_arr_from (P := Tryz.prog) (t := 267) Tryz.underlying267 (fun _ => by kernel_rfl) (w.heap.size + 1 + 1) 0 n (by omega) .i64 (n : Int) rfl wx
  rw [Nat.zero_add] at hsl
  obtain ⟨M, HM⟩ : ∃ M, Hid (M = 64 - n) := ⟨64 - n, hide rfl⟩
  rw [← HM.out] at hsl
  have hM1 : (56 : Int) ≤ (M : Int) := by have := HM.out; omega
  have hM2 : (M : Int) ≤ 63 := by have := HM.out; omega
  have hMa : (1 : Int) ≤ (M : Int) := by omega
  have hMb : (3 : Int) ≤ (M : Int) := by omega
  have hMc : (7 : Int) ≤ (M : Int) := by omega
  have hMd : (8 : Int) ≤ (M : Int) := by omega
  have hwk : IntKind.u64.wrap k = k := wrap_u64_id k (by omega) (by omega)
  have hwl : IntKind.u64.wrap l = l := wrap_u64_id l (by omega) (by omega)
  have hwm : IntKind.u64.wrap m = m := wrap_u64_id m (by omega) (by omega)
  have hwp : IntKind.u64.wrap (p.size : Int) = (p.size : Int) := wrap_u64_id _ (by omega) (by omega)
  have hMe : ¬ (M = 1) := by omega
  have hMf : ¬ (M = 3) := by omega
  have hMg : ¬ (M = 7) := by omega
  go_enter Tryz.func245, Tryz.ntmps245
  go_wp2_with fail
  refine wp_start w (.int .i64 k) (.int .i64 l) (.int .i64 m) (.string p) _ _ _ _ _ rfl rfl ?_
  intro wa hpi hfm
  have hln0 : (List.replicate 64 (0 : Int)).length = 64 := by simp
  obtain ⟨xs0, HX0⟩ : ∃ xs0, Hid (xs0 = List.replicate 64 (0 : Int)) := ⟨_, hide rfl⟩
  rw [← HX0.out] at hfm hln0
  have hfm0 := hfm
  have hpi0 := hpi
  clear hfm hpi
  have HS0 := hide hpi0.toS
  clear hpi0
  go_region_held3 (fun w' => w'.cell? ⟨w.heap.size, 0, none⟩ = some (.int .i64 k) ∧ w'.cell? ⟨w.heap.size, 1, none⟩ = some (.int .i64 l) ∧ w'.cell? ⟨w.heap.size, 2, none⟩ = some (.int .i64 m) ∧ w'.cell? ⟨w.heap.size, 3, none⟩ = some (.string p) ∧ PI w w' (.int .i64 k) (.int .i64 l) (.int .i64 m) (.string p))
    (first | assumption | exact (PI.ofS HS0.out).drew.toS | exact (PI.wrote (PI.ofS (by assumption)) (by assumption)).toS)
    (first | (go_at_call 263; refine (put_any (w.heap.size + 1 + 1) n 1 M k _ (by omega) (by omega) (by omega) (fun i hi => ⟨_, hfm0.drew.cell (n + i) (by rw [hln0]; omega)⟩) (fun i hi => hfm0.drew.froz (n + i) (by rw [hln0]; omega))).mono ?_; rintro e wb ⟨rfl, hw0⟩))
  have hpi1 : PI w wb (.int .i64 k) (.int .i64 l) (.int .i64 m) (.string p) := PI.ofS (by assumption)
  obtain ⟨xs1, HX1, hln1, hfm1⟩ := hfm0.drew.step hln0 hw0 (by rw [be_length]; omega)
  clear HS0 hw0 hfm0 hln0
  go_wp2_with fail
  have HS1 := hide hpi1.toS
  clear hpi1
  go_region_held3 (fun w' => w'.cell? ⟨w.heap.size, 0, none⟩ = some (.int .i64 k) ∧ w'.cell? ⟨w.heap.size, 1, none⟩ = some (.int .i64 l) ∧ w'.cell? ⟨w.heap.size, 2, none⟩ = some (.int .i64 m) ∧ w'.cell? ⟨w.heap.size, 3, none⟩ = some (.string p) ∧ PI w w' (.int .i64 k) (.int .i64 l) (.int .i64 m) (.string p))
    (first | assumption | exact (PI.ofS HS1.out).drew.toS | exact (PI.wrote (PI.ofS (by assumption)) (by assumption)).toS)
    (first | (go_at_call 263; refine (put_any (w.heap.size + 1 + 1) (n + 1) 2 (M - 1) l _ (by omega) (by omega) (by omega) (fun i hi => ⟨_, hfm1.drew.cell (n + 1 + i) (by rw [hln1]; omega)⟩) (fun i hi => hfm1.drew.froz (n + 1 + i) (by rw [hln1]; omega))).mono ?_; rintro e wc ⟨rfl, hw1⟩))
  have hpi2 : PI w wc (.int .i64 k) (.int .i64 l) (.int .i64 m) (.string p) := PI.ofS (by assumption)
  obtain ⟨xs2, HX2, hln2, hfm2⟩ := hfm1.drew.step hln1 hw1 (by rw [be_length]; omega)
  clear HS1 hw1 hfm1 hln1
  go_wp2_with fail
  have HS2 := hide hpi2.toS
  clear hpi2
  go_region_held3 (fun w' => w'.cell? ⟨w.heap.size, 0, none⟩ = some (.int .i64 k) ∧ w'.cell? ⟨w.heap.size, 1, none⟩ = some (.int .i64 l) ∧ w'.cell? ⟨w.heap.size, 2, none⟩ = some (.int .i64 m) ∧ w'.cell? ⟨w.heap.size, 3, none⟩ = some (.string p) ∧ PI w w' (.int .i64 k) (.int .i64 l) (.int .i64 m) (.string p))
    (first | assumption | exact (PI.ofS HS2.out).drew.toS | exact (PI.wrote (PI.ofS (by assumption)) (by assumption)).toS)
    (first | (go_at_call 263; refine (put_any (w.heap.size + 1 + 1) (n + 3) 4 (M - 3) m _ (by omega) (by omega) (by omega) (fun i hi => ⟨_, hfm2.drew.cell (n + 3 + i) (by rw [hln2]; omega)⟩) (fun i hi => hfm2.drew.froz (n + 3 + i) (by rw [hln2]; omega))).mono ?_; rintro e wd ⟨rfl, hw2⟩))
  have hpi3 : PI w wd (.int .i64 k) (.int .i64 l) (.int .i64 m) (.string p) := PI.ofS (by assumption)
  obtain ⟨xs3, HX3, hln3, hfm3⟩ := hfm2.drew.step hln2 hw2 (by rw [be_length]; omega)
  clear HS2 hw2 hfm2 hln2
  go_wp2_with fail
  have HS3 := hide hpi3.toS
  clear hpi3
  go_region_held3 (fun w' => w'.cell? ⟨w.heap.size, 0, none⟩ = some (.int .i64 k) ∧ w'.cell? ⟨w.heap.size, 1, none⟩ = some (.int .i64 l) ∧ w'.cell? ⟨w.heap.size, 2, none⟩ = some (.int .i64 m) ∧ w'.cell? ⟨w.heap.size, 3, none⟩ = some (.string p) ∧ PI w w' (.int .i64 k) (.int .i64 l) (.int .i64 m) (.string p))
    (first | assumption | exact (PI.ofS HS3.out).drew.toS | exact (PI.wrote (PI.ofS (by assumption)) (by assumption)).toS)
    (first | (go_at_call 263; refine (put_any (w.heap.size + 1 + 1) (n + 7) 1 (M - 7) (p.size : Int) _ (by omega) (by omega) (by omega) (fun i hi => ⟨_, hfm3.drew.cell (n + 7 + i) (by rw [hln3]; omega)⟩) (fun i hi => hfm3.drew.froz (n + 7 + i) (by rw [hln3]; omega))).mono ?_; rintro e we ⟨rfl, hw3⟩))
  have hpi4 : PI w we (.int .i64 k) (.int .i64 l) (.int .i64 m) (.string p) := PI.ofS (by assumption)
  obtain ⟨xs4, HX4, hln4, hfm4⟩ := hfm3.drew.step hln3 hw3 (by rw [be_length]; omega)
  clear HS3 hw3 hfm3 hln3
  go_wp2_with fail
  have hM8 : ¬ (M = 8) := by omega
  have hps : p.size ≤ M - 8 := by have := HM.out; omega
  have HW4 := hide (hfm4.drew.copied (n + 8) p (by rw [hln4]; omega))
  have HC4 := hide (hfm4.drew.isSome (n + 8) p.size (by rw [hln4]; omega))
  have HF4 := hide (hfm4.drew.frozen (n + 8) p.size (by rw [hln4]; omega))
  have HS4 := hide hpi4.toS
  clear hpi4
  go_region_held3 (fun w' => w'.cell? ⟨w.heap.size, 0, none⟩ = some (.int .i64 k) ∧ w'.cell? ⟨w.heap.size, 1, none⟩ = some (.int .i64 l) ∧ w'.cell? ⟨w.heap.size, 2, none⟩ = some (.int .i64 m) ∧ w'.cell? ⟨w.heap.size, 3, none⟩ = some (.string p) ∧ PI w w' (.int .i64 k) (.int .i64 l) (.int .i64 m) (.string p))
    (first | assumption | exact (PI.ofS HS4.out).drew.toS | exact (PI.wrote (PI.ofS HS4.out).drew HW4.out).toS)
    (first | (refine step_copy_string (by rfl) _ _ _ _ (by rfl) 5 Tryz.underlying47 (fun _ => by kernel_rfl) (w.heap.size + 1 + 1) (n + 8) (M - 8) (M - 8) (by rfl) p (by rfl) hps HC4.out HF4.out ?_))
  have hpi5 := PI.wrote (PI.ofS HS4.out).drew HW4.out
  obtain ⟨xs5, HX5, hln5, hfm5⟩ := hfm4.drew.step hln4 HW4.out (by rw [nums_length]; omega)
  clear HS4 HW4 HC4 HF4 hfm4 hln4
  obtain ⟨wf, HWF⟩ : ∃ wf, wf = we.drew.setCells (w.heap.size + 1 + 1) (n + 8) (List.map (fun x => Value.int IntKind.u8 (x.toNat : Int)) p.data.toList) := ⟨_, rfl⟩
  rw [← HWF] at hfm5 hpi5 ⊢
  clear HWF
  go_wp2_with fail
  have hs2 := fun wx => slice_arr_to (P := Tryz.prog) (t := 267) Tryz.underlying267 (fun _ => by kernel_rfl) (w.heap.size + 1 + 1) 0 n (by omega) (by omega) .i64 (n : Int) rfl wx
  obtain ⟨bt, HB⟩ : ∃ bt, Hid (bt = strOfNums ((xs5.drop n).take M)) := ⟨_, hide rfl⟩
  have hbt : bt.size = M := by rw [HB.out, strOfNums_size, List.length_take, List.length_drop, hln5]; have := HM.out; omega
  have hF : w.heap.size + 1 + 1 < wf.drew.heap.size := by have := hpi5.size; show _ < wf.heap.size; omega
  have toS8 : ∀ (wx : World) (xs : List Int), xs.length = 64 → (xs.drop n).take M = (xs5.drop n).take M → Fm wx (w.heap.size + 1 + 1) xs → PI w wx (.int .i64 k) (.int .i64 l) (.int .i64 m) (.string p) →
      (convert 47 9 (.slice (some ⟨w.heap.size + 1 + 1, n, none⟩) M M)).run Tryz.prog wx = .ok (.string bt) wx ∧ wx.there (w.heap.size + 1 + 1) 0 64 ∧ PI w wx (.int .i64 k) (.int .i64 l) (.int .i64 m) (.string p) := fun wx xs hx hd hf hp => by
    refine ⟨?_, fun j hj => ⟨?_, ?_⟩, hp⟩
    · rw [hf.text 47 5 9 Tryz.underlying47 Tryz.underlying5 Tryz.underlying9 n M M (by have := HM.out; omega), hd, HB.out]
    · exact hf.isSome 0 64 (by omega) j hj
    · exact hf.frozen 0 64 (by omega) j hj
  have HT := hide toS8
  have HF5 := hide hfm5
  have HP5 := hide hpi5
  clear toS8 hfm5 hpi5
  have hzs : (sumN bt n).size = n := sumN_size _ _
  go_region_held3 (fun w' => (convert 47 9 (.slice (some ⟨w.heap.size + 1 + 1, n, none⟩) M M)).run Tryz.prog w' = .ok (.string bt) w' ∧ w'.there (w.heap.size + 1 + 1) 0 64 ∧ PI w w' (.int .i64 k) (.int .i64 l) (.int .i64 m) (.string p))
    (first | assumption | exact HT.out _ xs5 hln5 rfl HF5.out.drew HP5.out.drew | exact HT.out _ xs5 hln5 rfl (HF5.out.drew.below hbs hF) (HP5.out.drew.below hbs) | exact HT.out _ _ (by rw [spl_length _ _ _ (by rw [nums_length, hzs]; omega)]; exact hln5) (by rw [spl_drop _ _ n (by rw [nums_length, hzs])]) ((HF5.out.drew.below hbs hF).wrote ((HF5.out.drew.below hbs hF).copied 0 (sumN bt n) (by rw [hzs]; omega)) (by rw [nums_length, hzs]; omega)) (PI.wrote (HP5.out.drew.below hbs) ((HF5.out.drew.below hbs hF).copied 0 (sumN bt n) (by rw [hzs]; omega))))
    (first | (go_at_call 268; refine (sum_i bt _ n (by rw [hbt]; omega) (by omega) (by omega)).mono ?_; rintro e wg ⟨rfl, hbs⟩) | (refine step_copy_string (by rfl) _ _ _ _ (by rfl) 5 Tryz.underlying47 (fun _ => by kernel_rfl) (w.heap.size + 1 + 1) 0 n 64 (by rfl) (sumN bt n) (by rfl) (by rw [hzs]; omega) (fun j hj => ((HT.out _ xs5 hln5 rfl (HF5.out.drew.below hbs hF) (HP5.out.drew.below hbs)).2.1 j (by rw [hzs] at hj; omega)).1) (fun j hj => ((HT.out _ xs5 hln5 rfl (HF5.out.drew.below hbs hF) (HP5.out.drew.below hbs)).2.1 j (by rw [hzs] at hj; omega)).2) ?_))
  have hw6 := (HF5.out.drew.below hbs hF).copied 0 (sumN bt n) (by rw [hzs]; omega)
  have hpi6 := PI.wrote (HP5.out.drew.below hbs) hw6
  obtain ⟨xs6, HX6, hln6, hfm6⟩ := (HF5.out.drew.below hbs hF).step hln5 hw6 (by rw [nums_length, hzs]; omega)
  have HR : Hid (xs6 = nums (pageForm k l m p n)) := by
    have h5 := fill_list k l m p n (by omega) HX0.out HX1.out HX2.out HX3.out HX4.out HX5.out
    show xs6 = _
    rw [HX6.out, (form_list k l m p n (by omega) HM.out h5 HB.out).2]
  clear hw6 HF5 HP5 HT hbs hF
  obtain ⟨wh, HWH⟩ : ∃ wh, wh = wg.setCells (w.heap.size + 1 + 1) 0 (List.map (fun x => Value.int IntKind.u8 (x.toNat : Int)) (sumN bt n).data.toList) := ⟨_, rfl⟩
  rw [← HWH] at hfm6 hpi6 ⊢
  clear HWH
  have hsz6 : (xs6.map (Value.int .u8)).toArray.size = 64 := by simp [hln6]
  go_wp2_with (first
    | (refine wpList_load_mid rfl 267 _ rfl (w.heap.size + 1 + 1) 0 rfl (xs6.map (Value.int .u8)) _ hfm6.range Tryz.underlying267 rfl (by rw [List.length_map, hln6]; kernel_rfl) ?_)
    | (refine wpList_store_mid rfl 267 _ _ rfl (w.heap.size + 1) 0 (xs6.map (Value.int .u8)).toArray rfl rfl (by rw [hsz6]; exact hpi6.there) (by rw [hsz6]; kernel_rfl) (all_oneCell_toArray (ints_one xs6)) ?_))
  refine bodyPost_ret (v := .agg (xs6.map (Value.int .u8)).toArray) (results_cell1 (p := 4) Tryz.results245 _ _ (w.heap.size + 1) 0 rfl (xs6.map (Value.int .u8)) _ (World.rangeAt_setCells_same _ _ _ _ (by rw [List.length_map, hln6]; exact hpi6.there)) Tryz.underlying267 rfl (by rw [List.length_map, hln6]; kernel_rfl)) rfl ⟨by rw [HR.out], ?_⟩
  exact below_setCells (by omega) _ _ _ hpi6.bel
def formOf (k l m : Int) (p : ByteArray) (n : Int) : ByteArray := if pageOk k l m p n = true then pageForm k l m p n.toNat else ByteArray.empty
theorem form_s_any (k l m : Int) (p : ByteArray) (n : Int) (w : World) (hp : p.size ≤ 1048576) :
    Calls Tryz.prog 55 #[pageV k l m p, .int .i64 n] w fun e w' => e = .returned (.string (formOf k l m p n)) ∧ Below w.heap.size w w' := by
  unfold formOf
  cases h : pageOk k l m p n with
  | true =>
    have hd := of_decide_eq_true (by unfold pageOk at h; exact h)
    have hn : 1 ≤ n := hd.1
    obtain ⟨j, rfl⟩ : ∃ j : Nat, n = (j : Int) := ⟨n.toNat, by omega⟩
    rw [if_pos rfl, Int.toNat_natCast]
    exact form_s k l m p j w h
  | false => rw [if_neg (by simp)]; exact form_s_no k l m p n w hp h
end Go.Proofs.YtnmaknnnmjfhkagGreatDoor

namespace Go.Proofs.YtnmaknnnmjfhkagGreatDoor
open Go.RowKit
set_option linter.unusedVariables false
def cutAt (s : ByteArray) (l f : Int) (n m N i : Nat) : ByteArray := formOf (if i + 1 = N then 2 else 1) l (f + (i : Int)) (s.extract (i * m) (i * m + m)) (n : Int)
def cutOk (l f : Int) (N : Nat) : Bool := decide (1 ≤ l ∧ l ≤ 60000 ∧ 1 ≤ f ∧ f + (N : Int) ≤ 1000000001)
def cutList (s : ByteArray) (l f : Int) (n m N k : Nat) : List ByteArray := (List.range k).map (cutAt s l f n m N)
theorem cutList_succ (s : ByteArray) (l f : Int) (n m N k : Nat) : cutList s l f n m N (k + 1) = cutList s l f n m N k ++ [cutAt s l f n m N k] := by simp [cutList, List.range_succ]
theorem cutList_length (s : ByteArray) (l f : Int) (n m N k : Nat) : (cutList s l f n m N k).length = k := by simp [cutList]
def cutAll (s : ByteArray) (l f : Int) (n m : Nat) : List ByteArray := if cutOk l f (nparts s.size m) = true then cutList s l f n m (nparts s.size m) (nparts s.size m) else []
theorem nparts_le (l m : Nat) : nparts l m ≤ l + 1 := by
  unfold nparts
  split
  · omega
  · have := Nat.div_le_self (l - 1) m; omega
theorem nparts_pos (l m : Nat) : 0 < nparts l m := by
  unfold nparts
  split
  · omega
  · exact Nat.succ_pos _
theorem nparts_last (l m k : Nat) (hm : 0 < m) (hk : k < nparts l m) : l ≤ (k + 1) * m ↔ k + 1 = nparts l m := by
  unfold nparts at hk ⊢
  by_cases hl : l = 0
  · rw [if_pos hl] at hk ⊢
    omega
  · rw [if_neg hl] at hk ⊢
    constructor
    · intro h
      have : (l - 1) / m < k + 1 := (Nat.div_lt_iff_lt_mul hm).2 (by omega)
      omega
    · intro h
      have h2 : (l - 1) / m < k + 1 := by omega
      have := (Nat.div_lt_iff_lt_mul hm).1 h2
      omega
theorem piece_le (s : ByteArray) (a m : Nat) : (s.extract a (a + m)).size ≤ m := by simp only [ByteArray.size_extract]; omega
theorem cutAll_yes {s : ByteArray} {l f : Int} {n m N : Nat} (hN : N = nparts s.size m) (h : 1 ≤ l ∧ l ≤ 60000 ∧ 1 ≤ f ∧ f + (N : Int) ≤ 1000000001) : cutAll s l f n m = cutList s l f n m N N := by
  unfold cutAll cutOk; rw [← hN, if_pos (by simpa using h)]
theorem cutAll_no {s : ByteArray} {l f : Int} {n m N : Nat} (hN : N = nparts s.size m) (h : ¬ (1 ≤ l ∧ l ≤ 60000 ∧ 1 ≤ f ∧ f + (N : Int) ≤ 1000000001)) : cutAll s l f n m = [] := by
  unfold cutAll cutOk; rw [← hN, if_neg (by simpa using h)]
def NewS (w w' : World) (e : Ending) (ss : List ByteArray) : Prop := ∃ a c, e = .returned (.slice a ss.length c) ∧ OwnS w' a (ss.map Value.string) ∧ (∀ g, blk a ss.length = some g → w.heap.size ≤ g) ∧ Below w.heap.size w w'
theorem newS_nil {w w' : World} {v : Value} {a : Option Addr} {c : Nat} (hv : v = .slice a 0 c) (hb : Below w.heap.size w w') : NewS w w' (.returned v) [] := ⟨a, c, by rw [hv]; rfl, .inl rfl, fun g h => (by cases h), hb⟩
theorem newS_of {w w' : World} {v : Value} {k : Nat} {e : TypeId} {ss : List ByteArray} (h : w'.ownsRow w.heap.size e 1 v k (ss.map Value.string)) (hk : k = ss.length) (hb : Below w.heap.size w w') : NewS w w' (.returned v) ss := by
  rcases owns_forms h with ⟨h1, h2⟩ | ⟨g, cap, h1, h2, _, h3⟩
  · have : ss = [] := List.eq_nil_of_length_eq_zero (by omega)
    subst this
    exact newS_nil h1 hb
  · subst hk
    refine ⟨_, cap, by rw [h1], .inr ⟨g, rfl, h3⟩, fun g' hg' => ?_, hb⟩
    by_cases h0 : ss.length = 0
    · rw [h0] at hg'; cases hg'
    · rw [blk_pos g 0 _ h0] at hg'; cases hg'; exact h2
set_option maxRecDepth 4000 in
set_option maxHeartbeats 16000000 in
theorem cut_s (s : ByteArray) (l f : Int) (n m : Nat) (w : World) (hs : s.size ≤ 1048576) (hm : n + m = 56) (h1 : 1 ≤ n) (h2 : n ≤ 8) :
    Calls Tryz.prog 102 #[.string s, .int .i64 l, .int .i64 f, .int .i64 (n : Int)] w fun e w' => NewS w w' e (cutAll s l f n m) := by
  have hd : decide (1 ≤ (n : Int) ∧ (n : Int) ≤ 8) = true := by simp; omega
  have hb0 : ∀ o, Below w.heap.size w (w.alloc o) := fun o => (Below.refl _ _).alloc (Nat.le_refl _) _
  obtain ⟨N, HN⟩ : ∃ N, Hid (N = nparts s.size m) := ⟨_, hid rfl⟩
  have hN1 : N ≤ 1048577 := by have := nparts_le s.size m; rw [HN.out]; omega
  have hN0 : 0 < N := by rw [HN.out]; exact nparts_pos _ _
  obtain ⟨R, HR⟩ : ∃ R, Hid (R = cutAll s l f n m) := ⟨_, hid rfl⟩
  rw [← HR.out]
  by_cases hl1 : 1 ≤ l
  · by_cases hl2 : l ≤ 60000
    · by_cases hl3 : 1 ≤ f
      · by_cases hl4 : f ≤ 1000000000
        · by_cases hN2 : (N : Int) ≤ 1000000000 - f + 1
          · have HRR : Hid (R = cutList s l f n m N N) := by show _ = _; rw [HR.out]; exact cutAll_yes HN.out (by omega)
            clear HR
            obtain ⟨i0, hi0, hz0, hz1, hz2⟩ := info_parts infoStr'
            have HI := hid (And.intro hi0 (And.intro hz0 (And.intro hz1 hz2)))
            clear hi0 hz0 hz1 hz2
            go_enter Tryz.func102, Tryz.ntmps102
            go_wp2_with (first | (go_at_call 49; refine (width_s _ _).mono ?_; rw [hd]; rintro e w2 ⟨rfl, rfl⟩) | (go_at_call 191; refine (parts_s s n m _ hs hm h1 h2).mono ?_; rw [← HN.out]; rintro e w2 ⟨g, c, rfl, hg, hrow, hb⟩; have HROW := hid hrow; clear hrow))
            simp only [World.size_alloc] at hg
            have hB2 : Below w.heap.size w w2 := (hb0 _).trans (hb.mono (by simp))
            have hown0 : w2.ownsRow w.heap.size 9 1 (.slice (some ⟨w.heap.size, 0, none⟩) 0 0) 0 [] := owns_below (World.ownsRow_lit w #[] 0 (Nat.le_refl _) (by simp) (by simp)) hb
            clear hb
            go_loopw [9, 11, 12] (fun y i _ wr => ∃ k : Nat, k ≤ N ∧ i = .int .i64 k ∧ wr.ownsRow w.heap.size 9 1 y k ((cutList s l f n m N k).map Value.string) ∧ y.ownBlock ≠ some g ∧ Row wr g ((pieces s m N).map Value.string) ∧ Below w.heap.size w wr) (fun _ i _ _ => N - (intOf i).toNat)
            case atStart => exact ⟨0, Nat.zero_le _, rfl, hown0, by simp [Value.ownBlock]; omega, HROW.out, hB2⟩
            case round =>
              obtain ⟨k, hk, rfl, hown, hne, hrow, hbel⟩ := hrel
              by_cases hlt : k < N
              · have hc := hrow.cell k (.string (s.extract (k * m) (k * m + m))) (by simp [pieces, hlt])
                obtain ⟨p, HP⟩ : ∃ p, Hid (p = s.extract (k * m) (k * m + m)) := ⟨_, hid rfl⟩
                rw [← HP.out] at hc
                have hpz : p.size ≤ 1048576 := by rw [HP.out]; have := piece_le s (k * m) m; omega
                have hsz : w.heap.size ≤ wr.heap.size := hbel.size
                have hglt := hrow.lt
                have HB := hid hbel
                have HRW := hid hrow
                have HOWN := hid hown
                clear hbel hrow hown
                obtain ⟨F, HF⟩ : ∃ F, Hid (F = cutAt s l f n m N k) := ⟨_, hid rfl⟩
                obtain ⟨kd, hkd⟩ : ∃ kd : Int, kd = if k + 1 = N then 2 else 1 := ⟨_, rfl⟩
                have HFF : Hid (formOf kd l (f + (k : Int)) p (n : Int) = F) := by show _ = _; rw [HF.out, HP.out, hkd]; rfl
                have fin : ∀ (w5 : World), Below wr.heap.size wr w5 → ∀ (w7 : World) (g' cap : Nat), w7.ownsRow w.heap.size 9 1 (.slice (some ⟨g', 0, none⟩) (k + 1) cap) (k + 1) ((cutList s l f n m N k).map Value.string ++ [.string F]) → (w5.alloc (.cells #[.string F] 9)).grownBy w7 u9.ownBlock → (u9.ownBlock = some g' ∨ g' = w5.heap.size + 1) → (∃ k' : Nat, k' ≤ N ∧ Value.int .i64 ((k : Int) + 1) = .int .i64 k' ∧ w7.ownsRow w.heap.size 9 1 (.slice (some ⟨g', 0, none⟩) (k + 1) cap) k' ((cutList s l f n m N k').map Value.string) ∧ (Value.slice (some ⟨g', 0, none⟩) (k + 1) cap).ownBlock ≠ some g ∧ Row w7 g ((pieces s m N).map Value.string) ∧ Below w.heap.size w w7) := fun w5 hb5 w7 g' cap ho7 hg7 hat => by
                  have hs5 := hb5.size
                  refine ⟨k + 1, by omega, by go_num, ?_, ?_, ?_, ?_⟩
                  · rw [cutList_succ, List.map_append, ← HF.out]; exact ho7
                  · rcases hat with hat | hat
                    · intro he; exact hne (hat.trans (by simpa [Value.ownBlock] using he))
                    · simp [Value.ownBlock]; omega
                  · exact ((HRW.out.below hb5).alloc _).grown hg7 (fun he => hne he.symm)
                  · exact below_grown ((HB.out.trans (hb5.mono hsz)).alloc (by omega) _) ((owns_below HOWN.out hb5).alloc _) hg7 (by simp; omega)
                have HFIN := hid fin
                clear fin
                by_cases hkN : k + 1 = N
                · have hq : ((k : Int) == (N : Int) - 1) = true := by simp; omega
                  rw [if_pos hkN] at hkd
                  subst hkd
                  clear hkN
                  go_wp2_with (first | (go_at_call 55; refine (form_s_any 2 l (f + (k : Int)) p (n : Int) _ hpz).mono ?_; rw [HFF.out]; rintro e w5 ⟨rfl, hb5⟩; have hs5 := hb5.size; have HO5 := hid ((owns_below HOWN.out hb5).alloc (.cells #[.string F] 9))) | (at_builtin; refine wpList_append_lies _ rfl _ _ 22 rfl w.heap.size 9 i0 (.string ByteArray.empty) 1 16 Tryz.underlying22 HI.out.1 HI.out.2.1 HI.out.2.2.1 HI.out.2.2.2 rfl (by omega) _ k _ rfl HO5.out ⟨w5.heap.size, 0, none⟩ 1 1 [.string F] rfl rfl (World.news_of_block (heap_alloc_new w5 _)) (by intro u hu; simp at hu; subst hu; rfl) (by omega) (by unfold maxLen; omega) (by omega) (by simp; omega) (w5.heap.size + 1) (by simp) ?_; intro g' cap w7 hown7 hgrow7 hat7 hlt7; have HFI := hid (HFIN.out w5 hb5 w7 g' cap hown7 hgrow7 hat7); clear hown7 hgrow7 hat7))
                  exact ⟨HFI.out, by simp [intOf]; omega⟩
                · have hq : ((k : Int) == (N : Int) - 1) = false := by simp; omega
                  rw [if_neg hkN] at hkd
                  subst hkd
                  go_wp2_with (first | (go_at_call 55; refine (form_s_any 1 l (f + (k : Int)) p (n : Int) _ hpz).mono ?_; rw [HFF.out]; rintro e w5 ⟨rfl, hb5⟩; have hs5 := hb5.size; have HO5 := hid ((owns_below HOWN.out hb5).alloc (.cells #[.string F] 9))) | (at_builtin; refine wpList_append_lies _ rfl _ _ 22 rfl w.heap.size 9 i0 (.string ByteArray.empty) 1 16 Tryz.underlying22 HI.out.1 HI.out.2.1 HI.out.2.2.1 HI.out.2.2.2 rfl (by omega) _ k _ rfl HO5.out ⟨w5.heap.size, 0, none⟩ 1 1 [.string F] rfl rfl (World.news_of_block (heap_alloc_new w5 _)) (by intro u hu; simp at hu; subst hu; rfl) (by omega) (by unfold maxLen; omega) (by omega) (by simp; omega) (w5.heap.size + 1) (by simp) ?_; intro g' cap w7 hown7 hgrow7 hat7 hlt7; have HFI := hid (HFIN.out w5 hb5 w7 g' cap hown7 hgrow7 hat7); clear hown7 hgrow7 hat7))
                  exact ⟨HFI.out, by simp [intOf]; omega⟩
              · have hkN : k = N := by omega
                subst hkN
                have HO := hid hown
                clear hown hrow
                go_wp2
                go_ret
                rw [HRR.out]
                exact newS_of HO.out (cutList_length _ _ _ _ _ _ _).symm hbel
          · have HRR : Hid (R = []) := by show _ = _; rw [HR.out]; exact cutAll_no HN.out (by omega)
            clear HR
            go_enter Tryz.func102, Tryz.ntmps102
            go_wp2_with (first | (go_at_call 49; refine (width_s _ _).mono ?_; rw [hd]; rintro e w2 ⟨rfl, rfl⟩) | (go_at_call 191; refine (parts_s s n m _ hs hm h1 h2).mono ?_; rw [← HN.out]; rintro e w2 ⟨g, c, rfl, hg, hrow, hb⟩; clear hrow))
            go_ret
            rw [HRR.out]
            exact newS_nil rfl ((hb0 _).trans (hb.mono (by simp)))
        · have HRR : Hid (R = []) := by show _ = _; rw [HR.out]; exact cutAll_no HN.out (by omega)
          clear HR
          go_enter Tryz.func102, Tryz.ntmps102
          go_wp2_with (first | (go_at_call 49; refine (width_s _ _).mono ?_; rw [hd]; rintro e w2 ⟨rfl, rfl⟩))
          go_ret
          rw [HRR.out]
          exact newS_nil rfl (hb0 _)
      · have HRR : Hid (R = []) := by show _ = _; rw [HR.out]; exact cutAll_no HN.out (by omega)
        clear HR
        go_enter Tryz.func102, Tryz.ntmps102
        go_wp2_with (first | (go_at_call 49; refine (width_s _ _).mono ?_; rw [hd]; rintro e w2 ⟨rfl, rfl⟩))
        go_ret
        rw [HRR.out]
        exact newS_nil rfl (hb0 _)
    · have HRR : Hid (R = []) := by show _ = _; rw [HR.out]; exact cutAll_no HN.out (by omega)
      clear HR
      go_enter Tryz.func102, Tryz.ntmps102
      go_wp2_with (first | (go_at_call 49; refine (width_s _ _).mono ?_; rw [hd]; rintro e w2 ⟨rfl, rfl⟩))
      go_ret
      rw [HRR.out]
      exact newS_nil rfl (hb0 _)
  · have HRR : Hid (R = []) := by show _ = _; rw [HR.out]; exact cutAll_no HN.out (by omega)
    clear HR
    go_enter Tryz.func102, Tryz.ntmps102
    go_wp2_with (first | (go_at_call 49; refine (width_s _ _).mono ?_; rw [hd]; rintro e w2 ⟨rfl, rfl⟩))
    go_ret
    rw [HRR.out]
    exact newS_nil rfl (hb0 _)
end Go.Proofs.YtnmaknnnmjfhkagGreatDoor

namespace Go.Proofs.YtnmaknnnmjfhkagGreatDoor
open Go.RowKit
theorem form_i_no (k l m : Int) (p : ByteArray) (n : Int) (w : World) (hp : p.size ≤ 1048576) (hok : pageOk k l m p n = false) :
    Calls Tryz.prog 228 #[pageV k l m p, .int .i64 n] w fun e w' => e = .returned (.string ByteArray.empty) ∧ Below w.heap.size w w' := by
  go_enter Tryz.func228, Tryz.ntmps228
  go_wp2_with (go_at_call 244; refine (ok_i k l m p n _ hp).mono ?_; rw [hok]; rintro e w1 ⟨rfl, hb1⟩)
  go_ret
  exact ⟨rfl, ((Below.refl _ _).alloc (Nat.le_refl _) _).trans (hb1.mono (by simp))⟩
set_option maxRecDepth 4000 in
set_option maxHeartbeats 16000000 in
theorem form_i (k l m : Int) (p : ByteArray) (n : Nat) (w : World) (hok : pageOk k l m p n = true) :
    Calls Tryz.prog 228 #[pageV k l m p, .int .i64 (n : Int)] w fun e w' => e = .returned (.string (pageForm k l m p n)) ∧ Below w.heap.size w w' := by
  have hok' := of_decide_eq_true (by unfold pageOk at hok; exact hok)
  obtain ⟨hn1, hn2, hk1, hk2, hl1, hl2, hm1, hm2, hp, _⟩ := hok'
  go_enter Tryz.func228, Tryz.ntmps228
  go_wp2_with (go_at_call 244; refine (ok_i k l m p n _ (by omega)).mono ?_; rw [hok]; rintro e w1 ⟨rfl, hb1⟩; obtain ⟨q, q0, q1, q2, q3, hb2⟩ := keep4 (W := w) (v0 := .int .i64 k) (v1 := .int .i64 l) (v2 := .int .i64 m) (v3 := .string p) hb1 ⟨by simp, by simp, by simp, by simp, by simp, (Below.refl _ _).alloc (Nat.le_refl _) _⟩; clear hb1)
  refine (fill_i k l m p n _ hok).mono ?_
  rintro e w2 ⟨rfl, hb3⟩
  clear q q0 q1 q2 q3
  have hb4 := hb2.trans (hb3.mono hb2.size)
  clear hb2 hb3
  obtain ⟨xs, HX⟩ : ∃ xs, Hid (xs = nums (pageForm k l m p n)) := ⟨_, hide rfl⟩
  have hln : xs.length = 64 := by rw [HX.out, nums_length]; exact pageForm_size k l m p n (by omega)
  have hsz : (xs.map (Value.int .u8)).toArray.size = 64 := by simp [hln]
  rw [← HX.out]
  go_wp2_with (refine wpList_store_new rfl 267 _ _ rfl xs rfl rfl _ _ (.int .u8 0) (by rw [hln]; rfl) (by rw [hln]; kernel_rfl) ?_; intro wx hfm hbx _; have hcv := hfm.text (P := Tryz.prog) 47 5 9 Tryz.underlying47 Tryz.underlying5 Tryz.underlying9 0 64 64 (by omega); rw [List.drop_zero, List.take_of_length_le (by omega)] at hcv; clear hfm)
  go_ret
  refine ⟨ret_str ?_, hb4.trans (hbx.mono hb4.size)⟩
  rw [HX.out, strOfNums_nums]
theorem form_i_any (k l m : Int) (p : ByteArray) (n : Int) (w : World) (hp : p.size ≤ 1048576) :
    Calls Tryz.prog 228 #[pageV k l m p, .int .i64 n] w fun e w' => e = .returned (.string (formOf k l m p n)) ∧ Below w.heap.size w w' := by
  unfold formOf
  cases h : pageOk k l m p n with
  | true =>
    have hd := of_decide_eq_true (by unfold pageOk at h; exact h)
    have hn : 1 ≤ n := hd.1
    obtain ⟨j, rfl⟩ : ∃ j : Nat, n = (j : Int) := ⟨n.toNat, by omega⟩
    rw [if_pos rfl, Int.toNat_natCast]
    exact form_i k l m p j w h
  | false => rw [if_neg (by simp)]; exact form_i_no k l m p n w hp h
end Go.Proofs.YtnmaknnnmjfhkagGreatDoor

namespace Go.Proofs.YtnmaknnnmjfhkagGreatDoor
open Go.RowKit
set_option maxRecDepth 4000
set_option linter.unusedVariables false
set_option linter.unusedSimpArgs false
@[reducible] def rootV (t h f l : Int) : Value := .agg #[.int .i64 t, .int .i64 h, .int .i64 f, .int .i64 l]
def rtOk (h f : Int) : Prop := 0 ≤ h ∧ h ≤ 1 ∧ 1 ≤ f ∧ f ≤ 999999000
instance (h f : Int) : Decidable (rtOk h f) := by unfold rtOk; exact inferInstance
def rtPart (h f : Int) : ByteArray := strOfNums (be 1 h) ++ strOfNums (be 4 f)
def rtForm (t h f l n : Int) : ByteArray := if rtOk h f then formOf 4 l t (rtPart h f) n else ByteArray.empty
theorem half_i (h : Int) (w : World) : Calls Tryz.prog 223 #[.int .i64 h] w fun e w' => e = .returned (.bool (decide (0 ≤ h ∧ h ≤ 1))) ∧ w' = w := by
  have hh : decide (0 ≤ h ∧ h ≤ 1) = (decide (h = 0) || decide (h = 1)) := by rw [Bool.eq_iff_iff]; simp; omega
  rw [hh]
  go_enter Tryz.func223, Tryz.ntmps223
  by_cases h1 : h = 0
  · subst h1; go_wp2; go_ret; exact ⟨rfl, rfl⟩
  · by_cases h2 : h = 1
    · subst h2; go_wp2; go_ret; exact ⟨rfl, rfl⟩
    · go_wp2; go_ret; simp [h1, h2]
theorem first_i (f : Int) (w : World) : Calls Tryz.prog 224 #[.int .i64 f] w fun e w' => e = .returned (.bool (decide (1 ≤ f ∧ f ≤ 999999000))) ∧ w' = w := by
  go_enter Tryz.func224, Tryz.ntmps224
  by_cases h1 : 1 ≤ f <;> by_cases h2 : f ≤ 999999000 <;> (go_wp2; go_ret; simp [h1, h2])
theorem rootpage_s_no (t h f l n : Int) (w : World) (hno : ¬ rtOk h f) : Calls Tryz.prog 142 #[rootV t h f l, .int .i64 n] w fun e w' => e = .returned (.string ByteArray.empty) ∧ Below w.heap.size w w' := by
  have hb0 : ∀ o, Below w.heap.size w (w.alloc o) := fun o => (Below.refl _ _).alloc (Nat.le_refl _) _
  unfold rtOk at hno
  go_enter Tryz.func142, Tryz.ntmps142
  by_cases h1 : 0 ≤ h <;> by_cases h2 : h ≤ 1 <;> by_cases h3 : 1 ≤ f <;> by_cases h4 : f ≤ 999999000 <;> first | (exfalso; omega) | (clear hno; go_wp2; go_ret; exact ⟨rfl, hb0 _⟩)
set_option maxHeartbeats 16000000 in
theorem rootpage_s_ok (t h f l n : Int) (w : World) (hok : rtOk h f) : Calls Tryz.prog 142 #[rootV t h f l, .int .i64 n] w fun e w' => e = .returned (.string (formOf 4 l t (rtPart h f) n)) ∧ Below w.heap.size w w' := by
  obtain ⟨h1, h2, h3, h4⟩ := hok
  obtain ⟨A, hA⟩ : ∃ A, strOfNums (be 1 h) = A := ⟨_, rfl⟩
  obtain ⟨B, hB⟩ : ∃ B, strOfNums (be 4 f) = B := ⟨_, rfl⟩
  have zA : A.size = 1 := by rw [← hA, strOfNums_size, be_length]
  have zB : B.size = 4 := by rw [← hB, strOfNums_size, be_length]
  have HP : Hid (rtPart h f = A ++ B) := by show _ = _; unfold rtPart; rw [hA, hB]
  have numA := fun wx => num_s' h 1 1 rfl wx (by omega) (by omega) (by omega)
  have numB := fun wx => num_s' f 4 4 rfl wx (by omega) (by omega) (by omega)
  simp only [hA] at numA
  simp only [hB] at numB
  rw [HP.out]
  have hz : (A ++ B).size ≤ 1048576 := by simp only [ByteArray.size_append]; omega
  go_enter Tryz.func142, Tryz.ntmps142
  go_wp2_with fail
  have hS : w.heap.size < (w.alloc (.cells #[.int .i64 t, .int .i64 h, .int .i64 f, .int .i64 l] 28)).heap.size ∧ (w.alloc (.cells #[.int .i64 t, .int .i64 h, .int .i64 f, .int .i64 l] 28)).cell? ⟨w.heap.size, 0, none⟩ = some (.int .i64 t) ∧ (w.alloc (.cells #[.int .i64 t, .int .i64 h, .int .i64 f, .int .i64 l] 28)).cell? ⟨w.heap.size, 1, none⟩ = some (.int .i64 h) ∧ (w.alloc (.cells #[.int .i64 t, .int .i64 h, .int .i64 f, .int .i64 l] 28)).cell? ⟨w.heap.size, 2, none⟩ = some (.int .i64 f) ∧ (w.alloc (.cells #[.int .i64 t, .int .i64 h, .int .i64 f, .int .i64 l] 28)).cell? ⟨w.heap.size, 3, none⟩ = some (.int .i64 l) ∧ Below w.heap.size w (w.alloc (.cells #[.int .i64 t, .int .i64 h, .int .i64 f, .int .i64 l] 28)) := ⟨by simp, by simp, by simp, by simp, by simp, (Below.refl _ _).alloc (Nat.le_refl _) _⟩
  have HS := hide hS
  clear hS
  go_region_held3 (fun w' => w.heap.size < w'.heap.size ∧ w'.cell? ⟨w.heap.size, 0, none⟩ = some (.int .i64 t) ∧ w'.cell? ⟨w.heap.size, 1, none⟩ = some (.int .i64 h) ∧ w'.cell? ⟨w.heap.size, 2, none⟩ = some (.int .i64 f) ∧ w'.cell? ⟨w.heap.size, 3, none⟩ = some (.int .i64 l) ∧ Below w.heap.size w w')
    (first | assumption | exact keep4 (below_drewN (Below.refl _ _) 1) HS.out | exact keep4 (by assumption) (by assumption))
    (first | (go_at_call_of 144 h; refine (numA _).mono ?_; rintro e w2 ⟨rfl, hb2⟩) | (go_at_call_of 144 f; refine (numB _).mono ?_; rintro e w3 ⟨rfl, hb3⟩) | (go_at_call 55; refine (form_s_any 4 l t (A ++ B) n _ hz).mono ?_; rintro e w4 ⟨rfl, hb4⟩))
  rename_i hSl
  have hbl := hSl.2.2.2.2.2
  clear hSl
  go_wp2
  go_ret
  exact ⟨rfl, hbl⟩
theorem rootpage_s_any (t h f l n : Int) (w : World) : Calls Tryz.prog 142 #[rootV t h f l, .int .i64 n] w fun e w' => e = .returned (.string (rtForm t h f l n)) ∧ Below w.heap.size w w' := by
  unfold rtForm
  by_cases hok : rtOk h f
  · rw [if_pos hok]; exact rootpage_s_ok t h f l n w hok
  · rw [if_neg hok]; exact rootpage_s_no t h f l n w hok
end Go.Proofs.YtnmaknnnmjfhkagGreatDoor

namespace Go.Proofs.YtnmaknnnmjfhkagGreatDoor
open Go.RowKit
set_option maxRecDepth 4000
set_option linter.unusedVariables false
set_option linter.unusedSimpArgs false
structure B4 (w : World) (B : Nat) (v0 v1 v2 v3 : Value) : Prop where
  lt : B < w.heap.size
  c0 : w.cell? ⟨B, 0, none⟩ = some v0
  c1 : w.cell? ⟨B, 1, none⟩ = some v1
  c2 : w.cell? ⟨B, 2, none⟩ = some v2
  c3 : w.cell? ⟨B, 3, none⟩ = some v3
  f0 : w.frozen? ⟨B, 0, none⟩ = false
  f1 : w.frozen? ⟨B, 1, none⟩ = false
  f2 : w.frozen? ⟨B, 2, none⟩ = false
  f3 : w.frozen? ⟨B, 3, none⟩ = false
section
variable {w w' : World} {B : Nat} {v0 v1 v2 v3 : Value}
theorem B4.past (h : B4 w B v0 v1 v2 v3) {N : Nat} (hN : B < N) (hb : Below N w w') : B4 w' B v0 v1 v2 v3 := by
  have hc : ∀ i, w'.cell? ⟨B, i, none⟩ = w.cell? ⟨B, i, none⟩ := fun i => hb.cell (p := ⟨B, i, none⟩) hN
  have hf : ∀ i, w'.frozen? ⟨B, i, none⟩ = w.frozen? ⟨B, i, none⟩ := fun i => hb.frozen (p := ⟨B, i, none⟩) hN
  exact ⟨Nat.lt_of_lt_of_le h.lt hb.size, (hc _).trans h.c0, (hc _).trans h.c1, (hc _).trans h.c2, (hc _).trans h.c3, (hf _).trans h.f0, (hf _).trans h.f1, (hf _).trans h.f2, (hf _).trans h.f3⟩
theorem B4.below (h : B4 w B v0 v1 v2 v3) (hb : Below w.heap.size w w') : B4 w' B v0 v1 v2 v3 := h.past h.lt hb
theorem B4.drew (h : B4 w B v0 v1 v2 v3) : B4 w.drew B v0 v1 v2 v3 := ⟨h.lt, h.c0, h.c1, h.c2, h.c3, h.f0, h.f1, h.f2, h.f3⟩
theorem B4.alloc (h : B4 w B v0 v1 v2 v3) (o : Obj) : B4 (w.alloc o) B v0 v1 v2 v3 := h.below ((Below.refl _ _).alloc (Nat.le_refl _) _)
theorem B4.new (w : World) (v0 v1 v2 v3 : Value) (t : TypeId) : B4 (w.alloc (.cells #[v0, v1, v2, v3] t)) w.heap.size v0 v1 v2 v3 := by
  refine ⟨by simp, ?_, ?_, ?_, ?_, ?_, ?_, ?_, ?_⟩ <;> first | (simp; done) | (rw [frozen?_alloc_cells]; exact frozen_past _ _ _ (Nat.le_refl _))
end
def cvl (w : World) (p : Addr) : Value := (w.cell? p).getD (.int .i64 0)
theorem cvl_some {w : World} {p : Addr} (h : (w.cell? p).isSome = true) : w.cell? p = some (cvl w p) := by
  unfold cvl
  cases e : w.cell? p with
  | none => rw [e] at h; exact absurd h (by simp)
  | some v => rfl
theorem cvl_is {w : World} {p : Addr} {v : Value} (h : w.cell? p = some v) : (w.cell? p).isSome = true := by rw [h]; rfl
def KR (W : World) (R B : Nat) (v0 v1 v2 v3 : Value) (w : World) : Prop :=
  w.cell? ⟨B, 0, none⟩ = some v0 ∧ w.cell? ⟨B, 1, none⟩ = some v1 ∧ w.cell? ⟨B, 2, none⟩ = some v2 ∧ w.cell? ⟨B, 3, none⟩ = some v3 ∧ w.cell? ⟨R, 0, none⟩ = some (cvl w ⟨R, 0, none⟩) ∧ w.cell? ⟨R, 1, none⟩ = some (cvl w ⟨R, 1, none⟩) ∧ w.cell? ⟨R, 2, none⟩ = some (cvl w ⟨R, 2, none⟩) ∧ w.cell? ⟨R, 3, none⟩ = some (cvl w ⟨R, 3, none⟩) ∧ w.frozen? ⟨R, 0, none⟩ = false ∧ w.frozen? ⟨R, 1, none⟩ = false ∧ w.frozen? ⟨R, 2, none⟩ = false ∧ w.frozen? ⟨R, 3, none⟩ = false ∧ Below W.heap.size W w ∧ R < w.heap.size ∧ B < w.heap.size ∧ R ≠ B ∧ W.heap.size ≤ R
section
variable {W w w' : World} {R B : Nat} {v0 v1 v2 v3 u0 u1 u2 u3 : Value}
theorem KR.of (hB : B4 w B v0 v1 v2 v3) (hR : B4 w R u0 u1 u2 u3) (hb : Below W.heap.size W w) (hne : R ≠ B) (hW : W.heap.size ≤ R) : KR W R B v0 v1 v2 v3 w :=
  ⟨hB.c0, hB.c1, hB.c2, hB.c3, cvl_some (cvl_is hR.c0), cvl_some (cvl_is hR.c1), cvl_some (cvl_is hR.c2), cvl_some (cvl_is hR.c3), hR.f0, hR.f1, hR.f2, hR.f3, hb, hR.lt, hB.lt, hne, hW⟩
theorem KR.below (h : KR W R B v0 v1 v2 v3 w) (hb : Below w.heap.size w w') : KR W R B v0 v1 v2 v3 w' := by
  obtain ⟨a0, a1, a2, a3, c0, c1, c2, c3, f0, f1, f2, f3, hW, hR, hB, hne, hle⟩ := h
  have cR : ∀ i, w'.cell? ⟨R, i, none⟩ = w.cell? ⟨R, i, none⟩ := fun i => hb.cell (p := ⟨R, i, none⟩) hR
  have cB : ∀ i, w'.cell? ⟨B, i, none⟩ = w.cell? ⟨B, i, none⟩ := fun i => hb.cell (p := ⟨B, i, none⟩) hB
  have fR : ∀ i, w'.frozen? ⟨R, i, none⟩ = w.frozen? ⟨R, i, none⟩ := fun i => hb.frozen (p := ⟨R, i, none⟩) hR
  exact ⟨(cB _).trans a0, (cB _).trans a1, (cB _).trans a2, (cB _).trans a3, cvl_some (by rw [cR]; exact cvl_is c0), cvl_some (by rw [cR]; exact cvl_is c1), cvl_some (by rw [cR]; exact cvl_is c2), cvl_some (by rw [cR]; exact cvl_is c3), (fR _).trans f0, (fR _).trans f1, (fR _).trans f2, (fR _).trans f3, hW.trans (hb.mono (Nat.le_trans hle (Nat.le_of_lt hR))), Nat.lt_of_lt_of_le hR hb.size, Nat.lt_of_lt_of_le hB hb.size, hne, hle⟩
theorem KR.drew (h : KR W R B v0 v1 v2 v3 w) : KR W R B v0 v1 v2 v3 w.drew := h.below ((Below.refl _ _).drew)
theorem KR.set (h : KR W R B v0 v1 v2 v3 w) (j : Nat) (v : Value) : KR W R B v0 v1 v2 v3 (w.setCell ⟨R, j, none⟩ v) := by
  obtain ⟨a0, a1, a2, a3, c0, c1, c2, c3, f0, f1, f2, f3, hW, hR, hB, hne, hle⟩ := h
  have hs : ∀ p, (w.cell? p).isSome = true → ((w.setCell ⟨R, j, none⟩ v).cell? p).isSome = true := fun p hp => by
    by_cases e : (⟨R, j, none⟩ : Addr) = p
    · subst e
      obtain ⟨u, hu⟩ := Option.isSome_iff_exists.1 hp
      rw [World.cell?_setCell_same (w := w) (h := hu)]; rfl
    · rw [World.cell?_setCell_other (w := w) (h := e)]; exact hp
  have cB : ∀ i, (w.setCell ⟨R, j, none⟩ v).cell? ⟨B, i, none⟩ = w.cell? ⟨B, i, none⟩ := fun i => World.cell?_setCell_far _ _ _ _ hne
  exact ⟨(cB _).trans a0, (cB _).trans a1, (cB _).trans a2, (cB _).trans a3, cvl_some (hs _ (cvl_is c0)), cvl_some (hs _ (cvl_is c1)), cvl_some (hs _ (cvl_is c2)), cvl_some (hs _ (cvl_is c3)), by rw [World.frozen?_setCell]; exact f0, by rw [World.frozen?_setCell]; exact f1, by rw [World.frozen?_setCell]; exact f2, by rw [World.frozen?_setCell]; exact f3, hW.setCell hle _, by rw [World.size_setCell]; exact hR, by rw [World.size_setCell]; exact hB, hne, hle⟩
end
end Go.Proofs.YtnmaknnnmjfhkagGreatDoor

namespace Go.Proofs.YtnmaknnnmjfhkagGreatDoor
open Go.RowKit
set_option maxRecDepth 4000
set_option linter.unusedVariables false
set_option linter.unusedSimpArgs false
structure RI (W w : World) (c0 c1 c2 c3 : Value) : Prop where
  size : W.heap.size + 2 ≤ w.heap.size
  bel : Below W.heap.size W w
  b0 : w.cell? ⟨W.heap.size, 0, none⟩ = some c0
  b1 : w.cell? ⟨W.heap.size, 1, none⟩ = some c1
  b2 : w.cell? ⟨W.heap.size, 2, none⟩ = some c2
  b3 : w.cell? ⟨W.heap.size, 3, none⟩ = some c3
section
variable {W w w' : World} {c0 c1 c2 c3 : Value}
theorem RI.drew (h : RI W w c0 c1 c2 c3) : RI W w.drew c0 c1 c2 c3 := ⟨h.size, h.bel.drew, h.b0, h.b1, h.b2, h.b3⟩
theorem RI.past (h : RI W w c0 c1 c2 c3) (hb : Below (W.heap.size + 1) w w') : RI W w' c0 c1 c2 c3 :=
  have hs := h.size
  ⟨Nat.le_trans hs hb.size, h.bel.trans (hb.mono (by omega)), (hb.cell (p := ⟨_, 0, none⟩) (by show W.heap.size < _; omega)).trans h.b0, (hb.cell (p := ⟨_, 1, none⟩) (by show W.heap.size < _; omega)).trans h.b1,
    (hb.cell (p := ⟨_, 2, none⟩) (by show W.heap.size < _; omega)).trans h.b2, (hb.cell (p := ⟨_, 3, none⟩) (by show W.heap.size < _; omega)).trans h.b3⟩
theorem RI.below (h : RI W w c0 c1 c2 c3) (hb : Below w.heap.size w w') : RI W w' c0 c1 c2 c3 := h.past (hb.mono (by have := h.size; omega))
theorem RI.wrote {o : Nat} {ys : List Int} (h : RI W w c0 c1 c2 c3) (hw : Wrote w w' (W.heap.size + 1) o ys) : RI W w' c0 c1 c2 c3 := h.past (hw.below (Nat.le_refl _))
theorem RI.toS (h : RI W w c0 c1 c2 c3) : w.cell? ⟨W.heap.size, 0, none⟩ = some c0 ∧ w.cell? ⟨W.heap.size, 1, none⟩ = some c1 ∧ w.cell? ⟨W.heap.size, 2, none⟩ = some c2 ∧ w.cell? ⟨W.heap.size, 3, none⟩ = some c3 ∧ RI W w c0 c1 c2 c3 := ⟨h.b0, h.b1, h.b2, h.b3, h⟩
theorem RI.ofS (h : w.cell? ⟨W.heap.size, 0, none⟩ = some c0 ∧ w.cell? ⟨W.heap.size, 1, none⟩ = some c1 ∧ w.cell? ⟨W.heap.size, 2, none⟩ = some c2 ∧ w.cell? ⟨W.heap.size, 3, none⟩ = some c3 ∧ RI W w c0 c1 c2 c3) : RI W w c0 c1 c2 c3 := h.2.2.2.2
end
theorem wp_start5 {P : Program} {c : Code} {Q : Exit → Act → World → Prop} {a : Act} (w : World) (c0 c1 c2 c3 : Value) (t1 t2 : TypeId)
    (h : ∀ wa, RI w wa c0 c1 c2 c3 → Fm wa (w.heap.size + 1) [0, 0, 0, 0, 0] → c.wp P Q a wa) :
    c.wp P Q a ((w.alloc (.cells #[c0, c1, c2, c3] t1)).alloc (.cells #[.int .u8 0, .int .u8 0, .int .u8 0, .int .u8 0, .int .u8 0] t2)) := by
  refine h _ ⟨by simp, ((Below.refl _ _).alloc (Nat.le_refl _) _).alloc (by simp) _, by simp, by simp, by simp, by simp⟩ ⟨fun i hi => ?_, fun i hi => ?_⟩
  · rw [World.cell?_alloc_at _ _ _ _ (by simp)]
    have hi' : i < 5 := hi
    have : i = 0 ∨ i = 1 ∨ i = 2 ∨ i = 3 ∨ i = 4 := by omega
    rcases this with h | h | h | h | h <;> subst h <;> rfl
  · rw [frozen?_alloc_cells, frozen?_alloc_cells]
    exact frozen_past _ _ _ (by omega)
theorem rt_list (h f : Int) {xs1 xs2 : List Int} (h1 : xs1 = spl [0, 0, 0, 0, 0] 0 (be 1 h)) (h2 : xs2 = spl xs1 1 (be 4 f)) : strOfNums xs2 = rtPart h f := by
  have a1 : (be 1 h).length = 1 := be_length _ _
  have a2 : (be 4 f).length = 4 := be_length _ _
  unfold rtPart
  rw [← strOfNums_append]
  subst h1 h2
  congr 1
theorem rootpage_i_no (t h f l n : Int) (w : World) (hno : ¬ rtOk h f) : Calls Tryz.prog 227 #[rootV t h f l, .int .i64 n] w fun e w' => e = .returned (.string ByteArray.empty) ∧ Below w.heap.size w w' := by
  have hb0 : ∀ o, Below w.heap.size w (w.alloc o) := fun o => (Below.refl _ _).alloc (Nat.le_refl _) _
  unfold rtOk at hno
  by_cases d1 : 0 ≤ h ∧ h ≤ 1
  · have d1' : decide (0 ≤ h ∧ h ≤ 1) = true := decide_eq_true d1
    have d2' : decide (1 ≤ f ∧ f ≤ 999999000) = false := by simp; omega
    clear hno d1
    go_enter Tryz.func227, Tryz.ntmps227
    go_wp2_with (first | (go_at_call 223; refine (half_i _ _).mono ?_; rw [d1']; rintro e w1 ⟨rfl, rfl⟩) | (go_at_call 224; refine (first_i _ _).mono ?_; rw [d2']; rintro e w2 ⟨rfl, rfl⟩))
    go_ret
    exact ⟨rfl, hb0 _⟩
  · have d1' : decide (0 ≤ h ∧ h ≤ 1) = false := decide_eq_false d1
    clear hno d1
    go_enter Tryz.func227, Tryz.ntmps227
    go_wp2_with (first | (go_at_call 223; refine (half_i _ _).mono ?_; rw [d1']; rintro e w1 ⟨rfl, rfl⟩))
    go_ret
    exact ⟨rfl, hb0 _⟩
set_option maxRecDepth 4000 in
set_option maxHeartbeats 16000000 in
theorem rootpage_i_ok (t h f l n : Int) (w : World) (hok : rtOk h f) : Calls Tryz.prog 227 #[rootV t h f l, .int .i64 n] w fun e w' => e = .returned (.string (formOf 4 l t (rtPart h f) n)) ∧ Below w.heap.size w w' := by
  obtain ⟨h1, h2, h3, h4⟩ := hok
  have d1 : decide (0 ≤ h ∧ h ≤ 1) = true := by simp; omega
  have d2 : decide (1 ≤ f ∧ f ≤ 999999000) = true := by simp; omega
  have u1 : IntKind.u64.wrap h = h := wrap_u64_id h (by omega) (by omega)
  have u2 : IntKind.u64.wrap f = f := wrap_u64_id f (by omega) (by omega)
  obtain ⟨pt, HPT⟩ : ∃ pt, Hid (pt = rtPart h f) := ⟨_, hide rfl⟩
  rw [← HPT.out]
  go_enter Tryz.func227, Tryz.ntmps227
  go_wp2_with (first | (go_at_call 223; refine (half_i _ _).mono ?_; rw [d1]; rintro e w1 ⟨rfl, rfl⟩) | (go_at_call 224; refine (first_i _ _).mono ?_; rw [d2]; rintro e w2 ⟨rfl, rfl⟩))
  refine wp_start5 w (.int .i64 t) (.int .i64 h) (.int .i64 f) (.int .i64 l) _ _ ?_
  intro wa hpi0 hfm0
  have HS0 := hide hpi0.toS
  clear hpi0
  go_region_held3 (fun w' => w'.cell? ⟨w.heap.size, 0, none⟩ = some (.int .i64 t) ∧ w'.cell? ⟨w.heap.size, 1, none⟩ = some (.int .i64 h) ∧ w'.cell? ⟨w.heap.size, 2, none⟩ = some (.int .i64 f) ∧ w'.cell? ⟨w.heap.size, 3, none⟩ = some (.int .i64 l) ∧ RI w w' (.int .i64 t) (.int .i64 h) (.int .i64 f) (.int .i64 l))
    (first | assumption | exact (RI.ofS HS0.out).drew.toS | exact (RI.wrote (RI.ofS (by assumption)) (by assumption)).toS)
    (first | (go_at_call 263; refine (put_any (w.heap.size + 1) 0 1 5 h _ (by omega) (by omega) (by omega) (fun i hi => ⟨_, hfm0.drew.cell (0 + i) (by simp; omega)⟩) (fun i hi => hfm0.drew.froz (0 + i) (by simp; omega))).mono ?_; rintro e wb ⟨rfl, hw0⟩))
  have hpi1 : RI w wb (.int .i64 t) (.int .i64 h) (.int .i64 f) (.int .i64 l) := RI.ofS (by assumption)
  have hfm1 := hfm0.drew.wrote hw0 (by rw [be_length]; simp)
  obtain ⟨xs1, HX1⟩ : ∃ xs1, Hid (xs1 = spl [0, 0, 0, 0, 0] 0 (be 1 h)) := ⟨_, hide rfl⟩
  have hl1 : xs1.length = 5 := by rw [HX1.out, spl_length _ _ _ (by rw [be_length]; simp)]; rfl
  rw [← HX1.out] at hfm1
  clear HS0 hw0 hfm0
  go_wp2_with fail
  have HS1 := hide hpi1.toS
  clear hpi1
  go_region_held3 (fun w' => w'.cell? ⟨w.heap.size, 0, none⟩ = some (.int .i64 t) ∧ w'.cell? ⟨w.heap.size, 1, none⟩ = some (.int .i64 h) ∧ w'.cell? ⟨w.heap.size, 2, none⟩ = some (.int .i64 f) ∧ w'.cell? ⟨w.heap.size, 3, none⟩ = some (.int .i64 l) ∧ RI w w' (.int .i64 t) (.int .i64 h) (.int .i64 f) (.int .i64 l))
    (first | assumption | exact (RI.ofS HS1.out).drew.toS | exact (RI.wrote (RI.ofS (by assumption)) (by assumption)).toS)
    (first | (go_at_call 263; refine (put_any (w.heap.size + 1) 1 4 4 f _ (by omega) (by omega) (by omega) (fun i hi => ⟨_, hfm1.drew.cell (1 + i) (by rw [hl1]; omega)⟩) (fun i hi => hfm1.drew.froz (1 + i) (by rw [hl1]; omega))).mono ?_; rintro e wc ⟨rfl, hw1⟩))
  have hpi2 : RI w wc (.int .i64 t) (.int .i64 h) (.int .i64 f) (.int .i64 l) := RI.ofS (by assumption)
  have hfm2 := hfm1.drew.wrote hw1 (by rw [be_length, hl1]; omega)
  obtain ⟨xs2, HX2⟩ : ∃ xs2, Hid (xs2 = spl xs1 1 (be 4 f)) := ⟨_, hide rfl⟩
  have hl2 : xs2.length = 5 := by rw [HX2.out, spl_length _ _ _ (by rw [be_length, hl1]; omega), hl1]
  rw [← HX2.out] at hfm2
  have hPt : strOfNums xs2 = rtPart h f := rt_list h f HX1.out HX2.out
  rw [← HPT.out] at hPt
  have hpz : pt.size ≤ 1048576 := by rw [← hPt, strOfNums_size, hl2]; omega
  have hcv : ∀ wx, Fm wx (w.heap.size + 1) xs2 → (convert 47 9 (.slice (some ⟨w.heap.size + 1, 0, none⟩) 5 5)).run Tryz.prog wx = .ok (.string pt) wx := fun wx hf => by
    have := hf.text (P := Tryz.prog) 47 5 9 Tryz.underlying47 Tryz.underlying5 Tryz.underlying9 0 5 5 (by omega)
    rw [List.drop_zero, List.take_of_length_le (by omega), hPt] at this
    exact this
  have HCV := hide hcv
  have HFM := hide hfm2
  clear HS1 hw1 hfm1 hfm2 hcv
  go_wp2_with fail
  have HS2 := hide hpi2.toS
  clear hpi2
  have hFl : w.heap.size + 1 < wc.heap.size := by have := (RI.ofS HS2.out).size; omega
  go_region_held3 (fun w' => (convert 47 9 (.slice (some ⟨w.heap.size + 1, 0, none⟩) 5 5)).run Tryz.prog w' = .ok (.string pt) w' ∧ w'.cell? ⟨w.heap.size, 0, none⟩ = some (.int .i64 t) ∧ w'.cell? ⟨w.heap.size, 3, none⟩ = some (.int .i64 l) ∧ RI w w' (.int .i64 t) (.int .i64 h) (.int .i64 f) (.int .i64 l))
    (first | assumption | exact ⟨HCV.out _ HFM.out.drew, (RI.ofS HS2.out).drew.b0, (RI.ofS HS2.out).drew.b3, (RI.ofS HS2.out).drew⟩ | exact ⟨HCV.out _ (HFM.out.drew.below hb4 hFl), ((RI.ofS HS2.out).drew.below hb4).b0, ((RI.ofS HS2.out).drew.below hb4).b3, (RI.ofS HS2.out).drew.below hb4⟩)
    (first | (go_at_call 228; refine (form_i_any 4 l t pt n _ hpz).mono ?_; rintro e w4 ⟨rfl, hb4⟩))
  rename_i hSl
  have hbl := hSl.2.2.2.bel
  clear hSl
  go_wp2
  go_ret
  exact ⟨rfl, hbl⟩
theorem rootpage_i_any (t h f l n : Int) (w : World) : Calls Tryz.prog 227 #[rootV t h f l, .int .i64 n] w fun e w' => e = .returned (.string (rtForm t h f l n)) ∧ Below w.heap.size w w' := by
  unfold rtForm
  by_cases hok : rtOk h f
  · rw [if_pos hok]; exact rootpage_i_ok t h f l n w hok
  · rw [if_neg hok]; exact rootpage_i_no t h f l n w hok
end Go.Proofs.YtnmaknnnmjfhkagGreatDoor

namespace Go.Proofs.YtnmaknnnmjfhkagGreatDoor
open Go.RowKit
set_option linter.unusedVariables false
theorem part_short (s r : ByteArray) (a m : Nat) (h : r = s.extract a s.size) (hm : r.size ≤ m) : r = s.extract a (a + m) := extract_all s r a m h hm
theorem rest_short (s r : ByteArray) (a m : Nat) (h : r = s.extract a s.size) (hm : r.size ≤ m) : ByteArray.empty = s.extract (a + m) s.size := by
  subst h
  simp only [ByteArray.size_extract] at hm
  apply ByteArray.ext
  symm
  apply Array.eq_empty_of_size_eq_zero
  show (ByteArray.size _) = 0
  simp only [ByteArray.size_extract]
  omega
theorem last_iff (s r : ByteArray) (k m N : Nat) (hN : N = nparts s.size m) (hm : 0 < m) (hk : k < N) (h : r = s.extract (k * m) s.size) : r.size ≤ m ↔ k + 1 = N := by
  subst h
  rw [hN] at hk ⊢
  rw [← nparts_last s.size m k hm hk]
  simp only [ByteArray.size_extract, Nat.add_mul, Nat.one_mul]
  omega
theorem pageOk_cut (K l x : Int) (p : ByteArray) (n m : Nat) (hm : n + m = 56) (h1 : 1 ≤ n) (h2 : n ≤ 8) (hK : K = 1 ∨ K = 2) (hp : p.size ≤ m) : pageOk K l x p (n : Int) = decide (1 ≤ l ∧ l ≤ 60000 ∧ 1 ≤ x ∧ x ≤ 1000000000) := by
  unfold pageOk
  apply decide_eq_decide.2
  rcases hK with rfl | rfl <;> constructor <;> intro h <;> omega
theorem notall {f : Int} {k : Nat} (l : Int) (P : Nat → Prop) (h : ∀ j, j < k → 1 ≤ l ∧ l ≤ 60000 ∧ 1 ≤ f + (j : Int) ∧ f + (j : Int) ≤ 1000000000) (hf1 : -9223372036854775808 ≤ f) (hf2 : f ≤ 9223372036854775807) (hk : k ≤ 1048577) : -9223372036854775808 ≤ f + (k : Int) ∧ f + (k : Int) ≤ 9223372036854775807 := by
  rcases Nat.eq_zero_or_pos k with h0 | h0
  · subst h0; simp; omega
  · have := h 0 h0; simp at this; omega
theorem formOf_empty (k l m : Int) (p : ByteArray) (n : Int) : (formOf k l m p n).toList.isEmpty = !pageOk k l m p n := by
  rw [isEmpty_size]
  unfold formOf
  cases h : pageOk k l m p n with
  | false => simp
  | true =>
    simp only [if_true]
    have hp : 1 ≤ n ∧ n ≤ 8 ∧ (p.size : Int) ≤ 56 - n := by unfold pageOk at h; simp at h; omega
    rw [pageForm_size k l m p n.toNat (by omega)]
    rfl
set_option maxRecDepth 4000 in
set_option maxHeartbeats 16000000 in
theorem cut_i (s : ByteArray) (l f : Int) (n m : Nat) (w : World) (hs : s.size ≤ 1048576) (hm : n + m = 56) (h1 : 1 ≤ n) (h2 : n ≤ 8) (hf1 : -9223372036854775808 ≤ f) (hf2 : f ≤ 9223372036854775807) :
    Calls Tryz.prog 188 #[.string s, .int .i64 l, .int .i64 f, .int .i64 (n : Int)] w fun e w' => NewS w w' e (cutAll s l f n m) := by
  obtain ⟨N, HN⟩ : ∃ N, Hid (N = nparts s.size m) := ⟨_, hid rfl⟩
  have hN1 : N ≤ 1048577 := by have := nparts_le s.size m; rw [HN.out]; omega
  have hN0 : 0 < N := by rw [HN.out]; exact nparts_pos _ _
  have HNP : Hid (npages s.size (n : Int) = (N : Int)) := by
    show _ = _
    unfold npages
    rw [if_pos (by omega), HN.out, show (56 - (n : Int)).toNat = m by omega]
  obtain ⟨R, HR⟩ : ∃ R, Hid (R = cutAll s l f n m) := ⟨_, hid rfl⟩
  rw [← HR.out]
  obtain ⟨i0, hi0, hz0, hz1, hz2⟩ := info_parts infoStr'
  have HI := hid (And.intro hi0 (And.intro hz0 (And.intro hz1 hz2)))
  clear hi0 hz0 hz1 hz2
  go_enter Tryz.func188, Tryz.ntmps188
  go_wp2_with (first | (go_at_call 95; refine (pages_i s n _ hs).mono ?_; rw [HNP.out]; rintro e w2 ⟨rfl, hb2⟩))
  go_loopw [0, 9, 10, 11, 12, 13, 17] (fun x y _ _ _ _ i wr => ∃ (k : Nat) (r : ByteArray), k ≤ N ∧ i = .int .i64 k ∧ x = .string r ∧ Hid (r = s.extract (k * m) s.size) ∧ r.size ≤ 1048576 ∧ Hid (∀ j, j < k → 1 ≤ l ∧ l ≤ 60000 ∧ 1 ≤ f + (j : Int) ∧ f + (j : Int) ≤ 1000000000) ∧ wr.ownsRow w.heap.size 9 1 y k ((cutList s l f n m N k).map Value.string) ∧ Below w.heap.size w wr) (fun _ _ _ _ _ _ i _ => N - (intOf i).toNat)
  case atStart => exact ⟨0, s, Nat.zero_le _, rfl, rfl, by show s = _; simp, hs, fun j hj => by omega, World.ownsRow_nil _ _ _ _, hb2⟩
  case round =>
    obtain ⟨k, r, hk, rfl, rfl, HX, hrz, HOK, hown, hbel⟩ := hrel
    by_cases hlt : k < N
    · have hsz : w.heap.size ≤ wr.heap.size := hbel.size
      have HB := hid hbel
      have HOWN := hid hown
      clear hbel hown
      obtain ⟨hfk1, hfk2⟩ := notall l (fun _ => True) HOK.out hf1 hf2 (by omega)
      by_cases hrm : m < r.size
      · have hrm' : (m : Int) < (r.size : Int) := by omega
        have hne : (r.extract m r.size).toList.isEmpty = false := by rw [isEmpty_size]; simp only [ByteArray.size_extract]; simp; omega
        have hpz : (r.extract 0 m).size ≤ 1048576 := by simp only [ByteArray.size_extract]; omega
        have HPZ : Hid ((r.extract 0 m).size ≤ m) := by show _ ≤ _; simp only [ByteArray.size_extract]; omega
        have HPE : Hid ((r.extract 0 m) = s.extract (k * m) (k * m + m)) := by show _ = _; exact extract_part s r _ m HX.out
        have HRE : Hid ((r.extract m r.size) = s.extract ((k + 1) * m) s.size) := by show _ = _; rw [Nat.add_mul, Nat.one_mul]; exact extract_rest s r _ m HX.out
        have HKN : Hid ((if k + 1 = N then (2 : Int) else 1) = 1) := by show _ = _; have := last_iff s r k m N HN.out (by omega) hlt HX.out; rw [if_neg (by omega)]
        obtain ⟨F, HF⟩ : ∃ F, Hid (F = formOf 1 l (f + (k : Int)) (r.extract 0 m) (n : Int)) := ⟨_, hid rfl⟩
        have HFC : Hid (F = cutAt s l f n m N k) := by show _ = _; rw [HF.out, HPE.out]; unfold cutAt; rw [HKN.out]
        have HFE : Hid (F.toList.isEmpty = !decide (1 ≤ l ∧ l ≤ 60000 ∧ 1 ≤ f + (k : Int) ∧ f + (k : Int) ≤ 1000000000)) := by show _ = _; rw [HF.out, formOf_empty, pageOk_cut 1 l _ _ n m hm h1 h2 (by omega) HPZ.out]
        by_cases hok : 1 ≤ l ∧ l ≤ 60000 ∧ 1 ≤ f + (k : Int) ∧ f + (k : Int) ≤ 1000000000
        · have hfe : F.toList.isEmpty = false := by rw [HFE.out]; simpa using hok
          have HOK2 := hid hok
          clear hok
          go_wp2_with (first | (go_at_call 187; refine (partw_i n m _ hm h1 h2).mono ?_; rintro e w4 ⟨rfl, rfl⟩) | (go_at_call 228; refine (form_i_any 1 l (f + (k : Int)) (r.extract 0 m) (n : Int) _ hpz).mono ?_; rw [← HF.out]; rintro e w5 ⟨rfl, hb5⟩; have hs5 := hb5.size; simp only [World.size_alloc] at hs5; have HB5 := hid (HB.out.trans ((((Below.refl _ _).alloc (Nat.le_refl _) _).trans (hb5.mono (by simp))).mono hsz)); have HO5 := hid ((owns_below HOWN.out (((Below.refl _ _).alloc (Nat.le_refl _) _).trans (hb5.mono (by simp)))).alloc (.cells #[.string F] 9)); clear hb5) | (at_builtin; refine wpList_append_lies _ rfl _ _ 22 rfl w.heap.size 9 i0 (.string ByteArray.empty) 1 16 Tryz.underlying22 HI.out.1 HI.out.2.1 HI.out.2.2.1 HI.out.2.2.2 rfl (by omega) _ k _ rfl HO5.out ⟨w5.heap.size, 0, none⟩ 1 1 [.string F] rfl rfl (World.news_of_block (heap_alloc_new w5 _)) (by intro u hu; simp at hu; subst hu; rfl) (by omega) (by unfold maxLen; omega) (by omega) (by simp; omega) (w5.heap.size + 1) (by simp) ?_; intro g' cap w7 hown7 hgrow7 hat7 hlt7; have HO7 := hid hown7; have HB7 := hid (below_grown (HB5.out.alloc (by omega) _) HO5.out hgrow7 (by simp; omega)); clear hown7 hgrow7 hat7))
          refine ⟨⟨k + 1, (r.extract m r.size), by omega, by go_num, rfl, HRE.out, by simp only [ByteArray.size_extract]; omega, fun j hj => ?_, ?_, HB7.out⟩, by simp [intOf]; omega⟩
          · rcases Nat.lt_or_ge j k with h | h
            · exact HOK.out j h
            · have : j = k := by omega
              subst this; exact HOK2.out
          · rw [cutList_succ, List.map_append, ← HFC.out]; exact HO7.out
        · have hfe : F.toList.isEmpty = true := by rw [HFE.out, decide_eq_false hok]; rfl
          have HRR : Hid (R = []) := by show _ = _; rw [HR.out]; exact cutAll_no HN.out (by omega)
          clear hok
          go_wp2_with (first | (go_at_call 187; refine (partw_i n m _ hm h1 h2).mono ?_; rintro e w4 ⟨rfl, rfl⟩) | (go_at_call 228; refine (form_i_any 1 l (f + (k : Int)) (r.extract 0 m) (n : Int) _ hpz).mono ?_; rw [← HF.out]; rintro e w5 ⟨rfl, hb5⟩; have hs5 := hb5.size; simp only [World.size_alloc] at hs5; have HB5 := hid (HB.out.trans ((((Below.refl _ _).alloc (Nat.le_refl _) _).trans (hb5.mono (by simp))).mono hsz)); have HO5 := hid ((owns_below HOWN.out (((Below.refl _ _).alloc (Nat.le_refl _) _).trans (hb5.mono (by simp)))).alloc (.cells #[.string F] 9)); clear hb5))
          go_ret
          rw [HRR.out]
          exact newS_nil rfl HB5.out
      · have hrm' : (r.size : Int) ≤ (m : Int) := by omega
        have hpz : r.size ≤ 1048576 := by omega
        have HPZ : Hid (r.size ≤ m) := by show _ ≤ _; omega
        have HPE : Hid (r = s.extract (k * m) (k * m + m)) := by show _ = _; exact part_short s r _ m HX.out (by omega)
        have HRE : Hid (ByteArray.empty = s.extract ((k + 1) * m) s.size) := by show _ = _; rw [Nat.add_mul, Nat.one_mul]; exact rest_short s r _ m HX.out (by omega)
        have HKN : Hid ((if k + 1 = N then (2 : Int) else 1) = 2) := by show _ = _; have := last_iff s r k m N HN.out (by omega) hlt HX.out; rw [if_pos (by omega)]
        obtain ⟨F, HF⟩ : ∃ F, Hid (F = formOf 2 l (f + (k : Int)) r (n : Int)) := ⟨_, hid rfl⟩
        have HFC : Hid (F = cutAt s l f n m N k) := by show _ = _; rw [HF.out, HPE.out]; unfold cutAt; rw [HKN.out]
        have HFE : Hid (F.toList.isEmpty = !decide (1 ≤ l ∧ l ≤ 60000 ∧ 1 ≤ f + (k : Int) ∧ f + (k : Int) ≤ 1000000000)) := by show _ = _; rw [HF.out, formOf_empty, pageOk_cut 2 l _ _ n m hm h1 h2 (by omega) HPZ.out]
        by_cases hok : 1 ≤ l ∧ l ≤ 60000 ∧ 1 ≤ f + (k : Int) ∧ f + (k : Int) ≤ 1000000000
        · have hfe : F.toList.isEmpty = false := by rw [HFE.out]; simpa using hok
          have HOK2 := hid hok
          clear hok
          go_wp2_with (first | (go_at_call 187; refine (partw_i n m _ hm h1 h2).mono ?_; rintro e w4 ⟨rfl, rfl⟩) | (go_at_call 228; refine (form_i_any 2 l (f + (k : Int)) r (n : Int) _ hpz).mono ?_; rw [← HF.out]; rintro e w5 ⟨rfl, hb5⟩; have hs5 := hb5.size; simp only [World.size_alloc] at hs5; have HB5 := hid (HB.out.trans ((((Below.refl _ _).alloc (Nat.le_refl _) _).trans (hb5.mono (by simp))).mono hsz)); have HO5 := hid ((owns_below HOWN.out (((Below.refl _ _).alloc (Nat.le_refl _) _).trans (hb5.mono (by simp)))).alloc (.cells #[.string F] 9)); clear hb5) | (at_builtin; refine wpList_append_lies _ rfl _ _ 22 rfl w.heap.size 9 i0 (.string ByteArray.empty) 1 16 Tryz.underlying22 HI.out.1 HI.out.2.1 HI.out.2.2.1 HI.out.2.2.2 rfl (by omega) _ k _ rfl HO5.out ⟨w5.heap.size, 0, none⟩ 1 1 [.string F] rfl rfl (World.news_of_block (heap_alloc_new w5 _)) (by intro u hu; simp at hu; subst hu; rfl) (by omega) (by unfold maxLen; omega) (by omega) (by simp; omega) (w5.heap.size + 1) (by simp) ?_; intro g' cap w7 hown7 hgrow7 hat7 hlt7; have HO7 := hid hown7; have HB7 := hid (below_grown (HB5.out.alloc (by omega) _) HO5.out hgrow7 (by simp; omega)); clear hown7 hgrow7 hat7))
          refine ⟨⟨k + 1, ByteArray.empty, by omega, by go_num, rfl, HRE.out, by simp, fun j hj => ?_, ?_, HB7.out⟩, by simp [intOf]; omega⟩
          · rcases Nat.lt_or_ge j k with h | h
            · exact HOK.out j h
            · have : j = k := by omega
              subst this; exact HOK2.out
          · rw [cutList_succ, List.map_append, ← HFC.out]; exact HO7.out
        · have hfe : F.toList.isEmpty = true := by rw [HFE.out, decide_eq_false hok]; rfl
          have HRR : Hid (R = []) := by show _ = _; rw [HR.out]; exact cutAll_no HN.out (by omega)
          clear hok
          go_wp2_with (first | (go_at_call 187; refine (partw_i n m _ hm h1 h2).mono ?_; rintro e w4 ⟨rfl, rfl⟩) | (go_at_call 228; refine (form_i_any 2 l (f + (k : Int)) r (n : Int) _ hpz).mono ?_; rw [← HF.out]; rintro e w5 ⟨rfl, hb5⟩; have hs5 := hb5.size; simp only [World.size_alloc] at hs5; have HB5 := hid (HB.out.trans ((((Below.refl _ _).alloc (Nat.le_refl _) _).trans (hb5.mono (by simp))).mono hsz)); have HO5 := hid ((owns_below HOWN.out (((Below.refl _ _).alloc (Nat.le_refl _) _).trans (hb5.mono (by simp)))).alloc (.cells #[.string F] 9)); clear hb5))
          go_ret
          rw [HRR.out]
          exact newS_nil rfl HB5.out
    · have hkN : k = N := by omega
      subst hkN
      have HRR : Hid (R = cutList s l f n m k k) := by
        show _ = _
        rw [HR.out]
        have h0 := HOK.out 0 hN0
        have h3 := HOK.out (k - 1) (by omega)
        exact cutAll_yes HN.out (by omega)
      have HO := hid hown
      clear hown
      go_wp2
      go_ret
      rw [HRR.out]
      exact newS_of HO.out (cutList_length _ _ _ _ _ _ _).symm hbel
end Go.Proofs.YtnmaknnnmjfhkagGreatDoor
