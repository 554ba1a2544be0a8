import Derived.Test.YtnmaknnnmjfhkaeDoorPrG33
import Derived.Test.YtnmaknnnmjfhkaeDoorPrG35
namespace Go.Proofs.YtnmaknnnmjfhkaeDoor
open Go.RowKit
set_option linter.unusedVariables false
def cutAt (s : ByteArray) (l f : Int) (n m N i : Nat) : ByteArray := formOf (if i + 1 = N then 2 else 1) l (f + (i : Int)) (s.extract (i * m) (i * m + m)) (n : Int)
def cutOk (l f : Int) (N : Nat) : Bool := decide (1 ≤ l ∧ l ≤ 60000 ∧ 1 ≤ f ∧ f + (N : Int) ≤ 1000000001)
def cutList (s : ByteArray) (l f : Int) (n m N k : Nat) : List ByteArray := (List.range k).map (cutAt s l f n m N)
theorem cutList_succ (s : ByteArray) (l f : Int) (n m N k : Nat) : cutList s l f n m N (k + 1) = cutList s l f n m N k ++ [cutAt s l f n m N k] := by simp [cutList, List.range_succ]
theorem cutList_length (s : ByteArray) (l f : Int) (n m N k : Nat) : (cutList s l f n m N k).length = k := by simp [cutList]
def cutAll (s : ByteArray) (l f : Int) (n m : Nat) : List ByteArray := if cutOk l f (nparts s.size m) = true then cutList s l f n m (nparts s.size m) (nparts s.size m) else []
theorem nparts_le (l m : Nat) : nparts l m ≤ l + 1 := by
  unfold nparts
  split
  · omega
  · have := Nat.div_le_self (l - 1) m; omega
theorem nparts_pos (l m : Nat) : 0 < nparts l m := by
  unfold nparts
  split
  · omega
  · exact Nat.succ_pos _
theorem nparts_last (l m k : Nat) (hm : 0 < m) (hk : k < nparts l m) : l ≤ (k + 1) * m ↔ k + 1 = nparts l m := by
  unfold nparts at hk ⊢
  by_cases hl : l = 0
  · rw [if_pos hl] at hk ⊢
    omega
  · rw [if_neg hl] at hk ⊢
    constructor
    · intro h
      have : (l - 1) / m < k + 1 := (Nat.div_lt_iff_lt_mul hm).2 (by omega)
      omega
    · intro h
      have h2 : (l - 1) / m < k + 1 := by omega
      have := (Nat.div_lt_iff_lt_mul hm).1 h2
      omega
theorem piece_le (s : ByteArray) (a m : Nat) : (s.extract a (a + m)).size ≤ m := by simp only [ByteArray.size_extract]; omega
theorem cutAll_yes {s : ByteArray} {l f : Int} {n m N : Nat} (hN : N = nparts s.size m) (h : 1 ≤ l ∧ l ≤ 60000 ∧ 1 ≤ f ∧ f + (N : Int) ≤ 1000000001) : cutAll s l f n m = cutList s l f n m N N := by
  unfold cutAll cutOk; rw [← hN, if_pos (by simpa using h)]
theorem cutAll_no {s : ByteArray} {l f : Int} {n m N : Nat} (hN : N = nparts s.size m) (h : ¬ (1 ≤ l ∧ l ≤ 60000 ∧ 1 ≤ f ∧ f + (N : Int) ≤ 1000000001)) : cutAll s l f n m = [] := by
  unfold cutAll cutOk; rw [← hN, if_neg (by simpa using h)]
def NewS (w w' : World) (e : Ending) (ss : List ByteArray) : Prop := ∃ a c, e = .returned (.slice a ss.length c) ∧ OwnS w' a (ss.map Value.string) ∧ (∀ g, blk a ss.length = some g → w.heap.size ≤ g) ∧ Below w.heap.size w w'
theorem newS_nil {w w' : World} {v : Value} {a : Option Addr} {c : Nat} (hv : v = .slice a 0 c) (hb : Below w.heap.size w w') : NewS w w' (.returned v) [] := ⟨a, c, by rw [hv]; rfl, .inl rfl, fun g h => (by cases h), hb⟩
theorem newS_of {w w' : World} {v : Value} {k : Nat} {e : TypeId} {ss : List ByteArray} (h : w'.ownsRow w.heap.size e 1 v k (ss.map Value.string)) (hk : k = ss.length) (hb : Below w.heap.size w w') : NewS w w' (.returned v) ss := by
  rcases owns_forms h with ⟨h1, h2⟩ | ⟨g, cap, h1, h2, _, h3⟩
  · have : ss = [] := List.eq_nil_of_length_eq_zero (by omega)
    subst this
    exact newS_nil h1 hb
  · subst hk
    refine ⟨_, cap, by rw [h1], .inr ⟨g, rfl, h3⟩, fun g' hg' => ?_, hb⟩
    by_cases h0 : ss.length = 0
    · rw [h0] at hg'; cases hg'
    · rw [blk_pos g 0 _ h0] at hg'; cases hg'; exact h2
set_option maxRecDepth 4000 in
set_option maxHeartbeats 1000000 in
theorem cut_s (s : ByteArray) (l f : Int) (n m : Nat) (w : World) (hs : s.size ≤ 1048576) (hm : n + m = 56) (h1 : 1 ≤ n) (h2 : n ≤ 8) :
    Calls Tryd.prog 9 #[.string s, .int .i64 l, .int .i64 f, .int .i64 (n : Int)] w fun e w' => NewS w w' e (cutAll s l f n m) := by
  have hd : decide (1 ≤ (n : Int) ∧ (n : Int) ≤ 8) = true := by simp; omega
  have hb0 : ∀ o, Below w.heap.size w (w.alloc o) := fun o => (Below.refl _ _).alloc (Nat.le_refl _) _
  obtain ⟨N, HN⟩ : ∃ N, Hid (N = nparts s.size m) := ⟨_, hid rfl⟩
  have hN1 : N ≤ 1048577 := by have := nparts_le s.size m; rw [HN.out]; omega
  have hN0 : 0 < N := by rw [HN.out]; exact nparts_pos _ _
  obtain ⟨R, HR⟩ : ∃ R, Hid (R = cutAll s l f n m) := ⟨_, hid rfl⟩
  rw [← HR.out]
  by_cases hl1 : 1 ≤ l
  · by_cases hl2 : l ≤ 60000
    · by_cases hl3 : 1 ≤ f
      · by_cases hl4 : f ≤ 1000000000
        · by_cases hN2 : (N : Int) ≤ 1000000000 - f + 1
          · have HRR : Hid (R = cutList s l f n m N N) := by show _ = _; rw [HR.out]; exact cutAll_yes HN.out (by omega)
            clear HR
            obtain ⟨i0, hi0, hz0, hz1, hz2⟩ := info_parts infoStr'
            have HI := hid (And.intro hi0 (And.intro hz0 (And.intro hz1 hz2)))
            clear hi0 hz0 hz1 hz2
            go_enter Tryd.func9, Tryd.ntmps9
            go_wp2_with (first | (go_at_call 34; refine (width_s _ _).mono ?_; rw [hd]; rintro e w2 ⟨rfl, rfl⟩) | (go_at_call 35; refine (parts_s s n m _ hs hm h1 h2).mono ?_; rw [← HN.out]; rintro e w2 ⟨g, c, rfl, hg, hrow, hb⟩; have HROW := hid hrow; clear hrow))
            simp only [World.size_alloc] at hg
            have hB2 : Below w.heap.size w w2 := (hb0 _).trans (hb.mono (by simp))
            have hown0 : w2.ownsRow w.heap.size 9 1 (.slice (some ⟨w.heap.size, 0, none⟩) 0 0) 0 [] := owns_below (World.ownsRow_lit w #[] 0 (Nat.le_refl _) (by simp) (by simp)) hb
            clear hb
            go_loopw [9, 11, 12] (fun y i _ wr => ∃ k : Nat, k ≤ N ∧ i = .int .i64 k ∧ wr.ownsRow w.heap.size 9 1 y k ((cutList s l f n m N k).map Value.string) ∧ y.ownBlock ≠ some g ∧ Row wr g ((pieces s m N).map Value.string) ∧ Below w.heap.size w wr) (fun _ i _ _ => N - (intOf i).toNat)
            case atStart => exact ⟨0, Nat.zero_le _, rfl, hown0, by simp [Value.ownBlock]; omega, HROW.out, hB2⟩
            case round =>
              obtain ⟨k, hk, rfl, hown, hne, hrow, hbel⟩ := hrel
              by_cases hlt : k < N
              · have hc := hrow.cell k (.string (s.extract (k * m) (k * m + m))) (by simp [pieces, hlt])
                obtain ⟨p, HP⟩ : ∃ p, Hid (p = s.extract (k * m) (k * m + m)) := ⟨_, hid rfl⟩
                rw [← HP.out] at hc
                have hpz : p.size ≤ 1048576 := by rw [HP.out]; have := piece_le s (k * m) m; omega
                have hsz : w.heap.size ≤ wr.heap.size := hbel.size
                have hglt := hrow.lt
                have HB := hid hbel
                have HRW := hid hrow
                have HOWN := hid hown
                clear hbel hrow hown
                obtain ⟨F, HF⟩ : ∃ F, Hid (F = cutAt s l f n m N k) := ⟨_, hid rfl⟩
                obtain ⟨kd, hkd⟩ : ∃ kd : Int, kd = if k + 1 = N then 2 else 1 := ⟨_, rfl⟩
                have HFF : Hid (formOf kd l (f + (k : Int)) p (n : Int) = F) := by show _ = _; rw [HF.out, HP.out, hkd]; rfl
                have fin : ∀ (w5 : World), Below wr.heap.size wr w5 → ∀ (w7 : World) (g' cap : Nat), w7.ownsRow w.heap.size 9 1 (.slice (some ⟨g', 0, none⟩) (k + 1) cap) (k + 1) ((cutList s l f n m N k).map Value.string ++ [.string F]) → (w5.alloc (.cells #[.string F] 9)).grownBy w7 u9.ownBlock → (u9.ownBlock = some g' ∨ g' = w5.heap.size + 1) → (∃ k' : Nat, k' ≤ N ∧ Value.int .i64 ((k : Int) + 1) = .int .i64 k' ∧ w7.ownsRow w.heap.size 9 1 (.slice (some ⟨g', 0, none⟩) (k + 1) cap) k' ((cutList s l f n m N k').map Value.string) ∧ (Value.slice (some ⟨g', 0, none⟩) (k + 1) cap).ownBlock ≠ some g ∧ Row w7 g ((pieces s m N).map Value.string) ∧ Below w.heap.size w w7) := fun w5 hb5 w7 g' cap ho7 hg7 hat => by
                  have hs5 := hb5.size
                  refine ⟨k + 1, by omega, by go_num, ?_, ?_, ?_, ?_⟩
                  · rw [cutList_succ, List.map_append, ← HF.out]; exact ho7
                  · rcases hat with hat | hat
                    · intro he; exact hne (hat.trans (by simpa [Value.ownBlock] using he))
                    · simp [Value.ownBlock]; omega
                  · exact ((HRW.out.below hb5).alloc _).grown hg7 (fun he => hne he.symm)
                  · exact below_grown ((HB.out.trans (hb5.mono hsz)).alloc (by omega) _) ((owns_below HOWN.out hb5).alloc _) hg7 (by simp; omega)
                have HFIN := hid fin
                clear fin
                by_cases hkN : k + 1 = N
                · have hq : ((k : Int) == (N : Int) - 1) = true := by simp; omega
                  rw [if_pos hkN] at hkd
                  subst hkd
                  clear hkN
                  go_wp2_with (first | (go_at_call 36; refine (form_s_any 2 l (f + (k : Int)) p (n : Int) _ hpz).mono ?_; rw [HFF.out]; rintro e w5 ⟨rfl, hb5⟩; have hs5 := hb5.size; have HO5 := hid ((owns_below HOWN.out hb5).alloc (.cells #[.string F] 9))) | (at_builtin; refine wpList_append_lies _ rfl _ _ 25 rfl w.heap.size 9 i0 (.string ByteArray.empty) 1 16 Tryd.underlying25 HI.out.1 HI.out.2.1 HI.out.2.2.1 HI.out.2.2.2 rfl (by omega) _ k _ rfl HO5.out ⟨w5.heap.size, 0, none⟩ 1 1 [.string F] rfl rfl (World.news_of_block (heap_alloc_new w5 _)) (by intro u hu; simp at hu; subst hu; rfl) (by omega) (by unfold maxLen; omega) (by omega) (by simp; omega) (w5.heap.size + 1) (by simp) ?_; intro g' cap w7 hown7 hgrow7 hat7 hlt7; have HFI := hid (HFIN.out w5 hb5 w7 g' cap hown7 hgrow7 hat7); clear hown7 hgrow7 hat7))
                  exact ⟨HFI.out, by simp [intOf]; omega⟩
                · have hq : ((k : Int) == (N : Int) - 1) = false := by simp; omega
                  rw [if_neg hkN] at hkd
                  subst hkd
                  go_wp2_with (first | (go_at_call 36; refine (form_s_any 1 l (f + (k : Int)) p (n : Int) _ hpz).mono ?_; rw [HFF.out]; rintro e w5 ⟨rfl, hb5⟩; have hs5 := hb5.size; have HO5 := hid ((owns_below HOWN.out hb5).alloc (.cells #[.string F] 9))) | (at_builtin; refine wpList_append_lies _ rfl _ _ 25 rfl w.heap.size 9 i0 (.string ByteArray.empty) 1 16 Tryd.underlying25 HI.out.1 HI.out.2.1 HI.out.2.2.1 HI.out.2.2.2 rfl (by omega) _ k _ rfl HO5.out ⟨w5.heap.size, 0, none⟩ 1 1 [.string F] rfl rfl (World.news_of_block (heap_alloc_new w5 _)) (by intro u hu; simp at hu; subst hu; rfl) (by omega) (by unfold maxLen; omega) (by omega) (by simp; omega) (w5.heap.size + 1) (by simp) ?_; intro g' cap w7 hown7 hgrow7 hat7 hlt7; have HFI := hid (HFIN.out w5 hb5 w7 g' cap hown7 hgrow7 hat7); clear hown7 hgrow7 hat7))
                  exact ⟨HFI.out, by simp [intOf]; omega⟩
              · have hkN : k = N := by omega
                subst hkN
                have HO := hid hown
                clear hown hrow
                go_wp2
                go_ret
                rw [HRR.out]
                exact newS_of HO.out (cutList_length _ _ _ _ _ _ _).symm hbel
          · have HRR : Hid (R = []) := by show _ = _; rw [HR.out]; exact cutAll_no HN.out (by omega)
            clear HR
            go_enter Tryd.func9, Tryd.ntmps9
            go_wp2_with (first | (go_at_call 34; refine (width_s _ _).mono ?_; rw [hd]; rintro e w2 ⟨rfl, rfl⟩) | (go_at_call 35; refine (parts_s s n m _ hs hm h1 h2).mono ?_; rw [← HN.out]; rintro e w2 ⟨g, c, rfl, hg, hrow, hb⟩; clear hrow))
            go_ret
            rw [HRR.out]
            exact newS_nil rfl ((hb0 _).trans (hb.mono (by simp)))
        · have HRR : Hid (R = []) := by show _ = _; rw [HR.out]; exact cutAll_no HN.out (by omega)
          clear HR
          go_enter Tryd.func9, Tryd.ntmps9
          go_wp2_with (first | (go_at_call 34; refine (width_s _ _).mono ?_; rw [hd]; rintro e w2 ⟨rfl, rfl⟩))
          go_ret
          rw [HRR.out]
          exact newS_nil rfl (hb0 _)
      · have HRR : Hid (R = []) := by show _ = _; rw [HR.out]; exact cutAll_no HN.out (by omega)
        clear HR
        go_enter Tryd.func9, Tryd.ntmps9
        go_wp2_with (first | (go_at_call 34; refine (width_s _ _).mono ?_; rw [hd]; rintro e w2 ⟨rfl, rfl⟩))
        go_ret
        rw [HRR.out]
        exact newS_nil rfl (hb0 _)
    · have HRR : Hid (R = []) := by show _ = _; rw [HR.out]; exact cutAll_no HN.out (by omega)
      clear HR
      go_enter Tryd.func9, Tryd.ntmps9
      go_wp2_with (first | (go_at_call 34; refine (width_s _ _).mono ?_; rw [hd]; rintro e w2 ⟨rfl, rfl⟩))
      go_ret
      rw [HRR.out]
      exact newS_nil rfl (hb0 _)
  · have HRR : Hid (R = []) := by show _ = _; rw [HR.out]; exact cutAll_no HN.out (by omega)
    clear HR
    go_enter Tryd.func9, Tryd.ntmps9
    go_wp2_with (first | (go_at_call 34; refine (width_s _ _).mono ?_; rw [hd]; rintro e w2 ⟨rfl, rfl⟩))
    go_ret
    rw [HRR.out]
    exact newS_nil rfl (hb0 _)
theorem cut_s_no (s : ByteArray) (l f n : Int) (w : World) (hn : ¬ (1 ≤ n ∧ n ≤ 8)) :
    Calls Tryd.prog 9 #[.string s, .int .i64 l, .int .i64 f, .int .i64 n] w fun e w' => NewS w w' e [] := by
  have hd : decide (1 ≤ n ∧ n ≤ 8) = false := by simpa using hn
  clear hn
  go_enter Tryd.func9, Tryd.ntmps9
  go_wp2_with (first | (go_at_call 34; refine (width_s _ _).mono ?_; rw [hd]; rintro e w2 ⟨rfl, rfl⟩))
  go_ret
  exact newS_nil rfl ((Below.refl _ _).alloc (Nat.le_refl _) _)
end Go.Proofs.YtnmaknnnmjfhkaeDoor
