import Derived.Test.YtnmaknnnmjfhkaeDoorPrPageI
import Derived.Test.YtnmaknnnmjfhkaeDoorPrCutB
namespace Go.Proofs.YtnmaknnnmjfhkaeDoor
open Go.RowKit
set_option linter.unusedVariables false
theorem part_short (s r : ByteArray) (a m : Nat) (h : r = s.extract a s.size) (hm : r.size ≤ m) : r = s.extract a (a + m) := extract_all s r a m h hm
theorem rest_short (s r : ByteArray) (a m : Nat) (h : r = s.extract a s.size) (hm : r.size ≤ m) : ByteArray.empty = s.extract (a + m) s.size := by
  subst h
  simp only [ByteArray.size_extract] at hm
  apply ByteArray.ext
  symm
  apply Array.eq_empty_of_size_eq_zero
  show (ByteArray.size _) = 0
  simp only [ByteArray.size_extract]
  omega
theorem last_iff (s r : ByteArray) (k m N : Nat) (hN : N = nparts s.size m) (hm : 0 < m) (hk : k < N) (h : r = s.extract (k * m) s.size) : r.size ≤ m ↔ k + 1 = N := by
  subst h
  rw [hN] at hk ⊢
  rw [← nparts_last s.size m k hm hk]
  simp only [ByteArray.size_extract, Nat.add_mul, Nat.one_mul]
  omega
theorem pageOk_cut (K l x : Int) (p : ByteArray) (n m : Nat) (hm : n + m = 56) (h1 : 1 ≤ n) (h2 : n ≤ 8) (hK : K = 1 ∨ K = 2) (hp : p.size ≤ m) : pageOk K l x p (n : Int) = decide (1 ≤ l ∧ l ≤ 60000 ∧ 1 ≤ x ∧ x ≤ 1000000000) := by
  unfold pageOk
  apply decide_eq_decide.2
  rcases hK with rfl | rfl <;> constructor <;> intro h <;> omega
theorem notall {f : Int} {k : Nat} (l : Int) (P : Nat → Prop) (h : ∀ j, j < k → 1 ≤ l ∧ l ≤ 60000 ∧ 1 ≤ f + (j : Int) ∧ f + (j : Int) ≤ 1000000000) (hf1 : -9223372036854775808 ≤ f) (hf2 : f ≤ 9223372036854775807) (hk : k ≤ 1048577) : -9223372036854775808 ≤ f + (k : Int) ∧ f + (k : Int) ≤ 9223372036854775807 := by
  rcases Nat.eq_zero_or_pos k with h0 | h0
  · subst h0; simp; omega
  · have := h 0 h0; simp at this; omega
theorem formOf_empty (k l m : Int) (p : ByteArray) (n : Int) : (formOf k l m p n).toList.isEmpty = !pageOk k l m p n := by
  rw [isEmpty_size]
  unfold formOf
  cases h : pageOk k l m p n with
  | false => simp
  | true =>
    simp only [if_true]
    have hp : 1 ≤ n ∧ n ≤ 8 ∧ (p.size : Int) ≤ 56 - n := by unfold pageOk at h; simp at h; omega
    rw [pageForm_size k l m p n.toNat (by omega)]
    rfl
set_option maxRecDepth 4000 in
set_option maxHeartbeats 1000000 in
theorem cut_i (s : ByteArray) (l f : Int) (n m : Nat) (w : World) (hs : s.size ≤ 1048576) (hm : n + m = 56) (h1 : 1 ≤ n) (h2 : n ≤ 8) (hf1 : -9223372036854775808 ≤ f) (hf2 : f ≤ 9223372036854775807) :
    Calls Tryd.prog 7 #[.string s, .int .i64 l, .int .i64 f, .int .i64 (n : Int)] w fun e w' => NewS w w' e (cutAll s l f n m) := by
  obtain ⟨N, HN⟩ : ∃ N, Hid (N = nparts s.size m) := ⟨_, hid rfl⟩
  have hN1 : N ≤ 1048577 := by have := nparts_le s.size m; rw [HN.out]; omega
  have hN0 : 0 < N := by rw [HN.out]; exact nparts_pos _ _
  have HNP : Hid (npages s.size (n : Int) = (N : Int)) := by
    show _ = _
    unfold npages
    rw [if_pos (by omega), HN.out, show (56 - (n : Int)).toNat = m by omega]
  obtain ⟨R, HR⟩ : ∃ R, Hid (R = cutAll s l f n m) := ⟨_, hid rfl⟩
  rw [← HR.out]
  obtain ⟨i0, hi0, hz0, hz1, hz2⟩ := info_parts infoStr'
  have HI := hid (And.intro hi0 (And.intro hz0 (And.intro hz1 hz2)))
  clear hi0 hz0 hz1 hz2
  go_enter Tryd.func7, Tryd.ntmps7
  go_wp2_with (first | (go_at_call 10; refine (pages_i s n _ hs).mono ?_; rw [HNP.out]; rintro e w2 ⟨rfl, hb2⟩))
  go_loopw [0, 9, 10, 11, 12, 13, 17] (fun x y _ _ _ _ i wr => ∃ (k : Nat) (r : ByteArray), k ≤ N ∧ i = .int .i64 k ∧ x = .string r ∧ Hid (r = s.extract (k * m) s.size) ∧ r.size ≤ 1048576 ∧ Hid (∀ j, j < k → 1 ≤ l ∧ l ≤ 60000 ∧ 1 ≤ f + (j : Int) ∧ f + (j : Int) ≤ 1000000000) ∧ wr.ownsRow w.heap.size 9 1 y k ((cutList s l f n m N k).map Value.string) ∧ Below w.heap.size w wr) (fun _ _ _ _ _ _ i _ => N - (intOf i).toNat)
  case atStart => exact ⟨0, s, Nat.zero_le _, rfl, rfl, by show s = _; simp, hs, fun j hj => by omega, World.ownsRow_nil _ _ _ _, hb2⟩
  case round =>
    obtain ⟨k, r, hk, rfl, rfl, HX, hrz, HOK, hown, hbel⟩ := hrel
    by_cases hlt : k < N
    · have hsz : w.heap.size ≤ wr.heap.size := hbel.size
      have HB := hid hbel
      have HOWN := hid hown
      clear hbel hown
      obtain ⟨hfk1, hfk2⟩ := notall l (fun _ => True) HOK.out hf1 hf2 (by omega)
      by_cases hrm : m < r.size
      · have hrm' : (m : Int) < (r.size : Int) := by omega
        have hne : (r.extract m r.size).toList.isEmpty = false := by rw [isEmpty_size]; simp only [ByteArray.size_extract]; simp; omega
        have hpz : (r.extract 0 m).size ≤ 1048576 := by simp only [ByteArray.size_extract]; omega
        have HPZ : Hid ((r.extract 0 m).size ≤ m) := by show _ ≤ _; simp only [ByteArray.size_extract]; omega
        have HPE : Hid ((r.extract 0 m) = s.extract (k * m) (k * m + m)) := by show _ = _; exact extract_part s r _ m HX.out
        have HRE : Hid ((r.extract m r.size) = s.extract ((k + 1) * m) s.size) := by show _ = _; rw [Nat.add_mul, Nat.one_mul]; exact extract_rest s r _ m HX.out
        have HKN : Hid ((if k + 1 = N then (2 : Int) else 1) = 1) := by show _ = _; have := last_iff s r k m N HN.out (by omega) hlt HX.out; rw [if_neg (by omega)]
        obtain ⟨F, HF⟩ : ∃ F, Hid (F = formOf 1 l (f + (k : Int)) (r.extract 0 m) (n : Int)) := ⟨_, hid rfl⟩
        have HFC : Hid (F = cutAt s l f n m N k) := by show _ = _; rw [HF.out, HPE.out]; unfold cutAt; rw [HKN.out]
        have HFE : Hid (F.toList.isEmpty = !decide (1 ≤ l ∧ l ≤ 60000 ∧ 1 ≤ f + (k : Int) ∧ f + (k : Int) ≤ 1000000000)) := by show _ = _; rw [HF.out, formOf_empty, pageOk_cut 1 l _ _ n m hm h1 h2 (by omega) HPZ.out]
        by_cases hok : 1 ≤ l ∧ l ≤ 60000 ∧ 1 ≤ f + (k : Int) ∧ f + (k : Int) ≤ 1000000000
        · have hfe : F.toList.isEmpty = false := by rw [HFE.out]; simpa using hok
          have HOK2 := hid hok
          clear hok
          go_wp2_with (first | (go_at_call 33; refine (partw_i n m _ hm h1 h2).mono ?_; rintro e w4 ⟨rfl, rfl⟩) | (go_at_call 15; refine (form_i_any 1 l (f + (k : Int)) (r.extract 0 m) (n : Int) _ hpz).mono ?_; rw [← HF.out]; rintro e w5 ⟨rfl, hb5⟩; have hs5 := hb5.size; simp only [World.size_alloc] at hs5; have HB5 := hid (HB.out.trans ((((Below.refl _ _).alloc (Nat.le_refl _) _).trans (hb5.mono (by simp))).mono hsz)); have HO5 := hid ((owns_below HOWN.out (((Below.refl _ _).alloc (Nat.le_refl _) _).trans (hb5.mono (by simp)))).alloc (.cells #[.string F] 9)); clear hb5) | (at_builtin; refine wpList_append_lies _ rfl _ _ 25 rfl w.heap.size 9 i0 (.string ByteArray.empty) 1 16 Tryd.underlying25 HI.out.1 HI.out.2.1 HI.out.2.2.1 HI.out.2.2.2 rfl (by omega) _ k _ rfl HO5.out ⟨w5.heap.size, 0, none⟩ 1 1 [.string F] rfl rfl (World.news_of_block (heap_alloc_new w5 _)) (by intro u hu; simp at hu; subst hu; rfl) (by omega) (by unfold maxLen; omega) (by omega) (by simp; omega) (w5.heap.size + 1) (by simp) ?_; intro g' cap w7 hown7 hgrow7 hat7 hlt7; have HO7 := hid hown7; have HB7 := hid (below_grown (HB5.out.alloc (by omega) _) HO5.out hgrow7 (by simp; omega)); clear hown7 hgrow7 hat7))
          refine ⟨⟨k + 1, (r.extract m r.size), by omega, by go_num, rfl, HRE.out, by simp only [ByteArray.size_extract]; omega, fun j hj => ?_, ?_, HB7.out⟩, by simp [intOf]; omega⟩
          · rcases Nat.lt_or_ge j k with h | h
            · exact HOK.out j h
            · have : j = k := by omega
              subst this; exact HOK2.out
          · rw [cutList_succ, List.map_append, ← HFC.out]; exact HO7.out
        · have hfe : F.toList.isEmpty = true := by rw [HFE.out, decide_eq_false hok]; rfl
          have HRR : Hid (R = []) := by show _ = _; rw [HR.out]; exact cutAll_no HN.out (by omega)
          clear hok
          go_wp2_with (first | (go_at_call 33; refine (partw_i n m _ hm h1 h2).mono ?_; rintro e w4 ⟨rfl, rfl⟩) | (go_at_call 15; refine (form_i_any 1 l (f + (k : Int)) (r.extract 0 m) (n : Int) _ hpz).mono ?_; rw [← HF.out]; rintro e w5 ⟨rfl, hb5⟩; have hs5 := hb5.size; simp only [World.size_alloc] at hs5; have HB5 := hid (HB.out.trans ((((Below.refl _ _).alloc (Nat.le_refl _) _).trans (hb5.mono (by simp))).mono hsz)); have HO5 := hid ((owns_below HOWN.out (((Below.refl _ _).alloc (Nat.le_refl _) _).trans (hb5.mono (by simp)))).alloc (.cells #[.string F] 9)); clear hb5))
          go_ret
          rw [HRR.out]
          exact newS_nil rfl HB5.out
      · have hrm' : (r.size : Int) ≤ (m : Int) := by omega
        have hpz : r.size ≤ 1048576 := by omega
        have HPZ : Hid (r.size ≤ m) := by show _ ≤ _; omega
        have HPE : Hid (r = s.extract (k * m) (k * m + m)) := by show _ = _; exact part_short s r _ m HX.out (by omega)
        have HRE : Hid (ByteArray.empty = s.extract ((k + 1) * m) s.size) := by show _ = _; rw [Nat.add_mul, Nat.one_mul]; exact rest_short s r _ m HX.out (by omega)
        have HKN : Hid ((if k + 1 = N then (2 : Int) else 1) = 2) := by show _ = _; have := last_iff s r k m N HN.out (by omega) hlt HX.out; rw [if_pos (by omega)]
        obtain ⟨F, HF⟩ : ∃ F, Hid (F = formOf 2 l (f + (k : Int)) r (n : Int)) := ⟨_, hid rfl⟩
        have HFC : Hid (F = cutAt s l f n m N k) := by show _ = _; rw [HF.out, HPE.out]; unfold cutAt; rw [HKN.out]
        have HFE : Hid (F.toList.isEmpty = !decide (1 ≤ l ∧ l ≤ 60000 ∧ 1 ≤ f + (k : Int) ∧ f + (k : Int) ≤ 1000000000)) := by show _ = _; rw [HF.out, formOf_empty, pageOk_cut 2 l _ _ n m hm h1 h2 (by omega) HPZ.out]
        by_cases hok : 1 ≤ l ∧ l ≤ 60000 ∧ 1 ≤ f + (k : Int) ∧ f + (k : Int) ≤ 1000000000
        · have hfe : F.toList.isEmpty = false := by rw [HFE.out]; simpa using hok
          have HOK2 := hid hok
          clear hok
          go_wp2_with (first | (go_at_call 33; refine (partw_i n m _ hm h1 h2).mono ?_; rintro e w4 ⟨rfl, rfl⟩) | (go_at_call 15; refine (form_i_any 2 l (f + (k : Int)) r (n : Int) _ hpz).mono ?_; rw [← HF.out]; rintro e w5 ⟨rfl, hb5⟩; have hs5 := hb5.size; simp only [World.size_alloc] at hs5; have HB5 := hid (HB.out.trans ((((Below.refl _ _).alloc (Nat.le_refl _) _).trans (hb5.mono (by simp))).mono hsz)); have HO5 := hid ((owns_below HOWN.out (((Below.refl _ _).alloc (Nat.le_refl _) _).trans (hb5.mono (by simp)))).alloc (.cells #[.string F] 9)); clear hb5) | (at_builtin; refine wpList_append_lies _ rfl _ _ 25 rfl w.heap.size 9 i0 (.string ByteArray.empty) 1 16 Tryd.underlying25 HI.out.1 HI.out.2.1 HI.out.2.2.1 HI.out.2.2.2 rfl (by omega) _ k _ rfl HO5.out ⟨w5.heap.size, 0, none⟩ 1 1 [.string F] rfl rfl (World.news_of_block (heap_alloc_new w5 _)) (by intro u hu; simp at hu; subst hu; rfl) (by omega) (by unfold maxLen; omega) (by omega) (by simp; omega) (w5.heap.size + 1) (by simp) ?_; intro g' cap w7 hown7 hgrow7 hat7 hlt7; have HO7 := hid hown7; have HB7 := hid (below_grown (HB5.out.alloc (by omega) _) HO5.out hgrow7 (by simp; omega)); clear hown7 hgrow7 hat7))
          refine ⟨⟨k + 1, ByteArray.empty, by omega, by go_num, rfl, HRE.out, by simp, fun j hj => ?_, ?_, HB7.out⟩, by simp [intOf]; omega⟩
          · rcases Nat.lt_or_ge j k with h | h
            · exact HOK.out j h
            · have : j = k := by omega
              subst this; exact HOK2.out
          · rw [cutList_succ, List.map_append, ← HFC.out]; exact HO7.out
        · have hfe : F.toList.isEmpty = true := by rw [HFE.out, decide_eq_false hok]; rfl
          have HRR : Hid (R = []) := by show _ = _; rw [HR.out]; exact cutAll_no HN.out (by omega)
          clear hok
          go_wp2_with (first | (go_at_call 33; refine (partw_i n m _ hm h1 h2).mono ?_; rintro e w4 ⟨rfl, rfl⟩) | (go_at_call 15; refine (form_i_any 2 l (f + (k : Int)) r (n : Int) _ hpz).mono ?_; rw [← HF.out]; rintro e w5 ⟨rfl, hb5⟩; have hs5 := hb5.size; simp only [World.size_alloc] at hs5; have HB5 := hid (HB.out.trans ((((Below.refl _ _).alloc (Nat.le_refl _) _).trans (hb5.mono (by simp))).mono hsz)); have HO5 := hid ((owns_below HOWN.out (((Below.refl _ _).alloc (Nat.le_refl _) _).trans (hb5.mono (by simp)))).alloc (.cells #[.string F] 9)); clear hb5))
          go_ret
          rw [HRR.out]
          exact newS_nil rfl HB5.out
    · have hkN : k = N := by omega
      subst hkN
      have HRR : Hid (R = cutList s l f n m k k) := by
        show _ = _
        rw [HR.out]
        have h0 := HOK.out 0 hN0
        have h3 := HOK.out (k - 1) (by omega)
        exact cutAll_yes HN.out (by omega)
      have HO := hid hown
      clear hown
      go_wp2
      go_ret
      rw [HRR.out]
      exact newS_of HO.out (cutList_length _ _ _ _ _ _ _).symm hbel
theorem cut_i_no (s : ByteArray) (l f n : Int) (w : World) (hs : s.size ≤ 1048576) (hn : ¬ (1 ≤ n ∧ n ≤ 8)) :
    Calls Tryd.prog 7 #[.string s, .int .i64 l, .int .i64 f, .int .i64 n] w fun e w' => NewS w w' e [] := by
  have HNP : Hid (npages s.size n = 0) := by show _ = _; unfold npages; exact if_neg hn
  clear hn
  go_enter Tryd.func7, Tryd.ntmps7
  go_wp2_with (first | (go_at_call 10; refine (pages_i s n _ hs).mono ?_; rw [HNP.out]; rintro e w2 ⟨rfl, hb2⟩))
  go_loopw [9, 17] (fun y i wr => i = .int .i64 0 ∧ y = .slice none 0 0 ∧ Below w.heap.size w wr) (fun _ _ _ => 0)
  case atStart => exact ⟨rfl, rfl, hb2⟩
  case round =>
    obtain ⟨rfl, rfl, hbel⟩ := hrel
    go_wp2
    go_ret
    exact newS_nil rfl hbel
end Go.Proofs.YtnmaknnnmjfhkaeDoor
