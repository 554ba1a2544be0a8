import Derived.Test.YtnmaknnnmjfhkadPL
import Derived.Test.YtnmaknnnmjfhkadCpy
namespace Go.Proofs.Ytnmaknnnmjfhkad
open Go.RowKit
set_option linter.unusedVariables false
set_option linter.unusedSimpArgs false

/-- The text in a cell; no text where there is none. -/
def sval (w : World) (p : Addr) : ByteArray := match w.cell? p with | some (.string s) => s | _ => ByteArray.empty
theorem sval_of {w : World} {p : Addr} {s : ByteArray} (h : w.cell? p = some (.string s)) : sval w p = s := by unfold sval; rw [h]
theorem sval_at {w : World} {p : Addr} {s : ByteArray} (h : w.cell? p = some (.string s)) (h64 : s.size = 64) : w.cell? p = some (.string (sval w p)) ∧ (sval w p).size = 64 := by rw [sval_of h]; exact ⟨h, h64⟩

theorem nums_extractP (p : ByteArray) (i j : Nat) (h : i ≤ j) : nums (p.extract i j) = ((nums p).take j).drop i := by
  unfold nums
  rw [ByteArray.data_extract, Array.toList_extract]
  simp [List.map_drop, List.map_take, List.take_drop, Nat.add_sub_cancel' h]
theorem nums_torn (F : Nat) (d t : ByteArray) (hF : F ≤ 64) (hd : d.size = 64) (ht : t.size = 64) : nums (d.extract 0 F ++ t.extract F 64) = torn F (nums d) (nums t) := by
  rw [nums_append, nums_extractP _ _ _ (Nat.zero_le _), nums_extractP _ _ _ hF, torn, List.drop_zero]
  rw [List.take_of_length_le (l := nums t) (by rw [nums_length]; omega)]
theorem torn_size (F : Nat) (d t : ByteArray) (hF : F ≤ 64) (hd : d.size = 64) (ht : t.size = 64) : (d.extract 0 F ++ t.extract F 64).size = 64 := by
  rw [ByteArray.size_append, ByteArray.size_extract, ByteArray.size_extract]; omega

/-- While the power goes, as the specification has it. -/
structure PTs (W w : World) (R X g g' n n' c1 c1' : Nat) (ws : List (Int × ByteArray)) (ts : List ByteArray) : Prop where
  bel : Below W.heap.size W w
  rr : Row w R [.slice none 0 0, .slice none 0 0]
  rx : Row w X [.slice (some ⟨g, 0, none⟩) n c1, .slice (some ⟨g', 0, none⟩) n' c1']
  rs : Row w g (ts.map Value.string)
  own : OwnS w (some ⟨g', 0, none⟩) (wcells ws)
section
variable {W w w' : World} {R X g g' n n' c1 c1' : Nat} {ws : List (Int × ByteArray)} {ts : List ByteArray}
theorem PTs.below (h : PTs W w R X g g' n n' c1 c1' ws ts) (hb : Below w.heap.size w w') : PTs W w' R X g g' n n' c1 c1' ws ts :=
  ⟨h.bel.trans (hb.mono h.bel.size), h.rr.below hb, h.rx.below hb, h.rs.below hb, h.own.below hb⟩
theorem PTs.drew (h : PTs W w R X g g' n n' c1 c1' ws ts) : PTs W w.drew R X g g' n n' c1 c1' ws ts := h.below ((Below.refl _ _).drew)
theorem PTs.set (h : PTs W w R X g g' n n' c1 c1' ws ts) (m : Nat) (hm : m < ts.length) (s : ByteArray) (h1 : W.heap.size ≤ g) (h2 : R ≠ g) (h3 : X ≠ g) (h4 : wcells ws ≠ [] → g' ≠ g) : PTs W (w.setCell ⟨g, m, none⟩ (.string s)) R X g g' n n' c1 c1' ws (ts.set m s) := by
  refine ⟨h.bel.setCell h1 _, h.rr.other _ (fun e => h2 e.symm) _, h.rx.other _ (fun e => h3 e.symm) _, ?_, ?_⟩
  · rw [List.map_set]; exact h.rs.set m (by simpa using hm) _
  · rcases h.own with ho | ⟨b, e, hr⟩
    · exact .inl ho
    · injection e with e; injection e with e
      by_cases hc : wcells ws = []
      · exact .inl hc
      · exact .inr ⟨g', rfl, (e ▸ hr).other _ (fun e2 => h4 hc e2.symm) _⟩
end

set_option maxRecDepth 100000 in
set_option maxHeartbeats 2000000 in
theorem pl_s (a : Option Addr) (ss : List ByteArray) (c : Nat) (a' : Option Addr) (ws : List (Int × ByteArray)) (c' : Nat) (f : Option Addr) (zs : List Int) (cf : Nat) (w : World) (h : Strs w a ss) (h' : Wrs w a' ws) (hz : Ints w f zs) (hlz : zs.length ≤ 1048576) (hok : diskOk ss ws = true) :
    Calls Try.prog 24 #[diskV a ss.length c a' ws.length c', .slice f zs.length cf] w fun e w' => ∃ a1 c1 a1' c1', e = .returned (diskV a1 ss.length c1 a1' 0 c1') ∧ OwnD w' a1 (secs (lays zs 0 (hsOf ws) (ss.map nums))) a1' [] ∧ (∀ g, blk a1 ss.length = some g → w.heap.size ≤ g) ∧ Below w.heap.size w w' := by
  obtain ⟨⟨hn1, hn2, hn3⟩, h64, hw⟩ := diskOk_of hok
  have hb0 : ∀ o1 o2, Below w.heap.size w ((w.alloc o1).alloc o2) := fun o1 o2 => ((Below.refl _ _).alloc (Nat.le_refl _) _).alloc (by simp) _
  obtain ⟨RES, HRES⟩ : ∃ RES, Hid (RES = lays zs 0 (hsOf ws) (ss.map nums)) := ⟨_, hid rfl⟩
  rw [← HRES.out]
  go_enter Try.func24, Try.ntmps24
  go_wp2_with fail
  refine (valid_s a ss c a' ws c' _ (h.below (hb0 _ _)) (h'.below (hb0 _ _)) (by omega) (by omega) (fun s hs => by have := h64 s hs; omega) (fun x hx => by have := of_decide_eq_true (hw x hx); omega)).mono ?_
  rw [hok]
  rintro e w1 ⟨rfl, hb1⟩
  have hB1 := (hb0 _ _).trans (hb1.mono (by simp; omega))
  obtain ⟨q1, q2⟩ := bcell hb1
  have rR := (row_new' (w.alloc (.cells #[.slice a ss.length c, .slice a' ws.length c'] 57)) #[.slice none 0 0, .slice none 0 0] 57 (w.heap.size + 1) (by simp)).below hb1
  have HRR := hid rR
  have HB1 := hid hB1
  clear rR hb1 hB1
  go_wp2_with fail
  refine (copy_s a ss c a' ws c' _ (h.below HB1.out) (h'.below HB1.out) hn2 hn3).mono ?_
  rintro e w2 ⟨g, c1, g', c1', rfl, hod, hg, hg', hb2⟩
  clear q1 q2
  go_wp2
  have hlen : ss.length ≠ 0 := by omega
  have hg1 : w1.heap.size ≤ g := hg g (by unfold blk; rw [if_neg hlen]; rfl)
  have hRl := HRR.out.lt
  have hrs : Row w2 g (ss.map Value.string) := by
    rcases hod.s with e | ⟨b, e, hr⟩
    · exact absurd (congrArg List.length e) (by rw [List.length_map, List.length_nil]; omega)
    · cases e; exact hr
  have hgl := hrs.lt
  have hne : wcells ws ≠ [] → g' ≠ g := fun hc => by
    have hl : ws.length ≠ 0 := fun e => hc (by rw [List.eq_nil_of_length_eq_zero e]; rfl)
    rcases hod.ne with e | e | e
    · unfold blk at e; rw [if_neg hlen] at e; exact absurd e (by simp)
    · unfold blk at e; rw [if_neg hl] at e; exact absurd e (by simp)
    · unfold blk at e; rw [if_neg hlen, if_neg hl] at e; exact fun e2 => e (by rw [e2])
  have hst : PTs w (w2.alloc (.cells #[.slice (some ⟨g, 0, none⟩) ss.length c1, .slice (some ⟨g', 0, none⟩) ws.length c1'] 57)) (w.heap.size + 1) w2.heap.size g g' ss.length ws.length c1 c1' ws ss :=
    ⟨Below.then (Below.then HB1.out (Nat.le_refl _) hb2) (Nat.le_refl _) (below_new _ _), (HRR.out.below hb2).alloc _, row_new _ _ _, hrs.alloc _, hod.p.below (below_new _ _)⟩
  have HST := hid hst
  have HW := hid hw
  have H64 := hid h64
  have HNE := hid hne
  have hwg : w.heap.size ≤ g := Nat.le_trans HB1.out.size hg1
  have hRg : w.heap.size + 1 ≠ g := by omega
  have hXg : w2.heap.size ≠ g := by omega
  have hRX : w.heap.size + 1 < w2.heap.size := by have := hb2.size; omega
  clear hst hod hg hg' hb2 hrs hne hw h64 HRR HB1 hg1 hRl
  go_loopw [6, 7, 8] (fun i _ _ wr => ∃ (k : Nat) (ts : List ByteArray), k ≤ ws.length ∧ i = .int .i64 k ∧ ts.length = ss.length ∧ Hid (∀ s ∈ ts, s.size = 64) ∧ Hid (lays zs k ((hsOf ws).drop k) (ts.map nums) = RES) ∧ PTs w wr (w.heap.size + 1) w2.heap.size g g' ss.length ws.length c1 c1' ws ts) (fun i _ _ _ => ws.length - (intOf i).toNat)
  case atStart => exact ⟨0, ss, Nat.zero_le _, rfl, rfl, hid (fun s hs => by have := H64.out s hs; omega), by show _ = _; rw [List.drop_zero, HRES.out], HST.out⟩
  case round =>
    clear HST
    obtain ⟨k, ts, hk, rfl, htl, HT64, HK, hst⟩ := hrel
    by_cases hlt : k < ws.length
    · obtain ⟨b, o, m0, d, he, hc0, hc1, HX⟩ := hst.own.wrs.at hlt
      obtain ⟨rfl, rfl⟩ : g' = b ∧ o = 0 := by cases he; exact ⟨rfl, rfl⟩
      rw [Nat.zero_add] at hc0 hc1
      clear he
      have hmem : (m0, d) ∈ ws := by rw [HX.out]; simp [List.getD, hlt]
      have hyw := of_decide_eq_true (HW.out (m0, d) hmem)
      obtain ⟨m, rfl, hm⟩ : ∃ m : Nat, m0 = (m : Int) ∧ m < ss.length := ⟨m0.toNat, by have := hyw.1; omega, by have := hyw.2.1; have := hyw.1; simp at *; omega⟩
      have hd64 : d.size = 64 := by have := hyw.2.2; simp at this; omega
      have hco := hst.rs.cell m (.string (ts.getD m ByteArray.empty)) (by simp [List.getD, htl, hm])
      have ht64 : (ts.getD m ByteArray.empty).size = 64 := HT64.out _ (by simp [List.getD, htl, hm])
      have hfo := hst.rs.froz m (by simp [htl, hm])
      obtain ⟨t, HTT⟩ : ∃ t, Hid (t = ts.getD m ByteArray.empty) := ⟨_, hid rfl⟩
      rw [← HTT.out] at hco ht64
      have x0 := hst.rx.cell 0 _ rfl
      have x1 := hst.rx.cell 1 _ rfl
      have hlX := hst.rx.lt
      have hlg := hst.rs.lt
      have hfate := fate_le zs k
      have HSR := hid hst
      have HZ := hid (hz.below hst.bel)
      clear hst hmem hyw
      by_cases hzk : k < zs.length
      · obtain ⟨bz, oz, z, rfl, hbz, hcz, HZZ⟩ := HZ.out.at hzk
        by_cases hneg : z < 0
        · go_wp2_with fail
          have hq := HSR.out.below (below_new wr (.cells #[.int .i64 (m : Int), .string d] 130))
          have hy := Cx.new wr (.int .i64 (m : Int)) (.string d) 130
          obtain ⟨wq, HWQ⟩ : ∃ wq, wq = wr.alloc (.cells #[.int .i64 (m : Int), .string d] 130) := ⟨_, rfl⟩
          rw [← HWQ] at hq hy ⊢
          have hlY : wr.heap.size < wq.heap.size := by rw [HWQ]; simp
          have hgY : g ≠ wr.heap.size := by omega
          have hco' := hq.rs.cell m (.string t) (by rw [HTT.out]; simp [List.getD, htl, hm])
          have hfo' := hq.rs.froz m (by simp [htl, hm])
          have HQ := hid hq
          have HY := hid hy
          have HSV := hid hco'
          have HFO := hid hfo'
          clear hq hy hco' hfo' hco hfo x0 x1 hc0 hc1 HWQ
          refine wp_region_held_drew (S := fun w' => w'.cell? ⟨w2.heap.size, 0, none⟩ = some (.slice (some ⟨g, 0, none⟩) ss.length c1) ∧ w'.cell? ⟨wr.heap.size, 0, none⟩ = some (.int .i64 (m : Int)) ∧ w'.cell? ⟨wr.heap.size, 1, none⟩ = some (.string d)) (by kernel_rfl) ⟨HQ.out.rx.cell 0 _ rfl, HY.out.c0, HY.out.c1⟩ (fun hHeld => ?_)
          refine wpAnyH_take (i := 0) (v := .pointer (some ⟨w2.heap.size, 0, none⟩)) rfl (by kernel_rfl) (by kernel_rfl) (by kernel_rfl) (fun _ _ _ h => h) (Or.inl ⟨by rfl, fun w hw => by obtain ⟨s0, s1, s2⟩ := hw; go_simp; all_goals omega⟩) hHeld ?_
          simp only [Act.put, List.setIfInBounds_toArray, List.set_cons_zero, List.set_cons_succ]
          refine wpAnyH_take (i := 1) (v := .slice (some ⟨g, 0, none⟩) ss.length c1) rfl (by kernel_rfl) (by kernel_rfl) (by kernel_rfl) (fun _ _ _ h => h) (Or.inl ⟨by rfl, fun w hw => by obtain ⟨s0, s1, s2⟩ := hw; go_simp; all_goals omega⟩) hHeld ?_
          simp only [Act.put, List.setIfInBounds_toArray, List.set_cons_zero, List.set_cons_succ]
          refine wpAnyH_take (i := 2) (v := .pointer (some ⟨wr.heap.size, 0, none⟩)) rfl (by kernel_rfl) (by kernel_rfl) (by kernel_rfl) (fun _ _ _ h => h) (Or.inl ⟨by rfl, fun w hw => by obtain ⟨s0, s1, s2⟩ := hw; go_simp; all_goals omega⟩) hHeld ?_
          simp only [Act.put, List.setIfInBounds_toArray, List.set_cons_zero, List.set_cons_succ]
          refine wpAnyH_take (i := 3) (v := .int .i64 (m : Int)) rfl (by kernel_rfl) (by kernel_rfl) (by kernel_rfl) (fun _ _ _ h => h) (Or.inl ⟨by rfl, fun w hw => by obtain ⟨s0, s1, s2⟩ := hw; go_simp; all_goals omega⟩) hHeld ?_
          simp only [Act.put, List.setIfInBounds_toArray, List.set_cons_zero, List.set_cons_succ]
          refine wpAnyH_take (i := 4) (v := .pointer (some ⟨wr.heap.size, 1, none⟩)) rfl (by kernel_rfl) (by kernel_rfl) (by kernel_rfl) (fun _ _ _ h => h) (Or.inl ⟨by rfl, fun w hw => by obtain ⟨s0, s1, s2⟩ := hw; go_simp; all_goals omega⟩) hHeld ?_
          simp only [Act.put, List.setIfInBounds_toArray, List.set_cons_zero, List.set_cons_succ]
          refine wpAnyH_take (i := 5) (v := .string d) rfl (by kernel_rfl) (by kernel_rfl) (by kernel_rfl) (fun _ _ _ h => h) (Or.inl ⟨by rfl, fun w hw => by obtain ⟨s0, s1, s2⟩ := hw; go_simp; all_goals omega⟩) hHeld ?_
          simp only [Act.put, List.setIfInBounds_toArray, List.set_cons_zero, List.set_cons_succ]
          refine wpAnyH_take (i := 6) (v := .int .i64 0) rfl (by kernel_rfl) (by kernel_rfl) (by kernel_rfl) (fun _ _ _ h => h) (Or.inl ⟨by rfl, fun w hw => by obtain ⟨s0, s1, s2⟩ := hw; go_simp; all_goals omega⟩) hHeld ?_
          simp only [Act.put, List.setIfInBounds_toArray, List.set_cons_zero, List.set_cons_succ]
          refine wpAnyH_take (i := 7) (v := .string (d.extract 0 0)) rfl (by kernel_rfl) (by kernel_rfl) (by kernel_rfl) (fun _ _ _ h => h) (Or.inl ⟨by rfl, fun w hw => by obtain ⟨s0, s1, s2⟩ := hw; go_simp; all_goals omega⟩) hHeld ?_
          simp only [Act.put, List.setIfInBounds_toArray, List.set_cons_zero, List.set_cons_succ]
          refine wpAnyH_take (i := 8) (v := .pointer (some ⟨w2.heap.size, 0, none⟩)) rfl (by kernel_rfl) (by kernel_rfl) (by kernel_rfl) (fun _ _ _ h => h) (Or.inl ⟨by rfl, fun w hw => by obtain ⟨s0, s1, s2⟩ := hw; go_simp; all_goals omega⟩) hHeld ?_
          simp only [Act.put, List.setIfInBounds_toArray, List.set_cons_zero, List.set_cons_succ]
          refine wpAnyH_take (i := 9) (v := .slice (some ⟨g, 0, none⟩) ss.length c1) rfl (by kernel_rfl) (by kernel_rfl) (by kernel_rfl) (fun _ _ _ h => h) (Or.inl ⟨by rfl, fun w hw => by obtain ⟨s0, s1, s2⟩ := hw; go_simp; all_goals omega⟩) hHeld ?_
          simp only [Act.put, List.setIfInBounds_toArray, List.set_cons_zero, List.set_cons_succ]
          refine wpAnyH_take (i := 10) (v := .pointer (some ⟨wr.heap.size, 0, none⟩)) rfl (by kernel_rfl) (by kernel_rfl) (by kernel_rfl) (fun _ _ _ h => h) (Or.inl ⟨by rfl, fun w hw => by obtain ⟨s0, s1, s2⟩ := hw; go_simp; all_goals omega⟩) hHeld ?_
          simp only [Act.put, List.setIfInBounds_toArray, List.set_cons_zero, List.set_cons_succ]
          refine wpAnyH_take (i := 11) (v := .int .i64 (m : Int)) rfl (by kernel_rfl) (by kernel_rfl) (by kernel_rfl) (fun _ _ _ h => h) (Or.inl ⟨by rfl, fun w hw => by obtain ⟨s0, s1, s2⟩ := hw; go_simp; all_goals omega⟩) hHeld ?_
          simp only [Act.put, List.setIfInBounds_toArray, List.set_cons_zero, List.set_cons_succ]
          refine wpAnyH_take (i := 12) (v := .pointer (some ⟨g, m, none⟩)) rfl (by kernel_rfl) (by kernel_rfl) (by kernel_rfl) (fun _ _ _ h => h) (Or.inl ⟨by rfl, fun w hw => by obtain ⟨s0, s1, s2⟩ := hw; go_simp; all_goals omega⟩) hHeld ?_
          simp only [Act.put, List.setIfInBounds_toArray, List.set_cons_zero, List.set_cons_succ]
          refine wpAnyH_take (i := 14) (v := .int .i64 0) rfl (by kernel_rfl) (by kernel_rfl) (by kernel_rfl) (fun _ _ _ h => h) (Or.inl ⟨by rfl, fun w hw => by obtain ⟨s0, s1, s2⟩ := hw; go_simp; all_goals omega⟩) hHeld ?_
          simp only [Act.put, List.setIfInBounds_toArray, List.set_cons_zero, List.set_cons_succ]
          refine wpAnyH_ready (rs := [13]) (by kernel_rfl) (by simp) ?_
          refine AllReadyH.cons rfl (fun K hK => ?_) AllReadyH.nil
          have hcg := HSV.out
          go_simp
          clear hcg
          refine hK.out _ _ hHeld (fun _ => ?_)
          clear hK K
          refine wpAnyH_take (i := 15) (v := .string (t.extract 0 t.size)) rfl (by kernel_rfl) (by kernel_rfl) (by kernel_rfl) (fun _ _ _ h => h) (Or.inl ⟨by rfl, fun w hw => by obtain ⟨s0, s1, s2⟩ := hw; go_simp; all_goals omega⟩) hHeld ?_
          simp only [Act.put, List.setIfInBounds_toArray, List.set_cons_zero, List.set_cons_succ]
          refine wpAnyH_take (i := 16) (v := .string (d.extract 0 0 ++ t.extract 0 t.size)) rfl (by kernel_rfl) (by kernel_rfl) (by kernel_rfl) (fun _ _ _ h => h) (Or.inl ⟨by rfl, fun w hw => by obtain ⟨s0, s1, s2⟩ := hw; go_simp; all_goals omega⟩) hHeld ?_
          simp only [Act.put, List.setIfInBounds_toArray, List.set_cons_zero, List.set_cons_succ]
          refine wpAnyH_take (i := 17) (v := .pointer (some ⟨g, m, none⟩)) rfl (by kernel_rfl) (by kernel_rfl) (by kernel_rfl) (fun _ _ _ h => h) (Or.inl ⟨by rfl, fun w hw => by obtain ⟨s0, s1, s2⟩ := hw; go_simp; all_goals omega⟩) hHeld ?_
          simp only [Act.put, List.setIfInBounds_toArray, List.set_cons_zero, List.set_cons_succ]
          refine wpAnyH_ready (rs := [18]) (by kernel_rfl) (by simp) ?_
          refine AllReadyH.cons rfl (fun K hK => ?_) AllReadyH.nil
          have hcg := HSV.out
          have hfg := HFO.out
          go_simp
          clear hcg hfg
          refine hK.out _ _ ⟨(World.cell?_setCell_far _ _ _ _ (by show g ≠ w2.heap.size; omega)).trans hHeld.1, (World.cell?_setCell_far _ _ _ _ (by show g ≠ wr.heap.size; omega)).trans hHeld.2.1, (World.cell?_setCell_far _ _ _ _ (by show g ≠ wr.heap.size; omega)).trans hHeld.2.2⟩ (fun _ => ?_)
          clear hK K
          refine wpAnyH_done (by kernel_rfl) ?_ _
          have hV : t.extract 0 64 = d.extract 0 0 ++ t.extract 0 64 := by simp
          have hst' := HQ.out.drew.set m (by omega) (t.extract 0 64) hwg hRg hXg HNE.out
          have HST' := hid hst'
          have HK' : Hid (lays zs (k + 1) ((hsOf ws).drop (k + 1)) ((ts.set m (t.extract 0 64)).map nums) = RES) := by
            show _ = _
            rw [hV]
            have hft : fate zs k = 0 := by unfold fate; rw [if_pos (by omega), ← HZZ.out, if_pos (by omega)]
            have hdk : (hsOf ws).drop k = ((m : Int), nums d) :: (hsOf ws).drop (k + 1) := by
              rw [drop_at (hsOf ws) k (0, []) (by rw [hsOf_length]; exact hlt)]
              have hgd : (hsOf ws).getD k (0, []) = ((m : Int), nums d) := by
                have e := HX.out
                simp [hsOf, List.getD, hlt] at e ⊢
                rw [← e]
                exact ⟨rfl, rfl⟩
              rw [hgd]
            rw [← HK.out, hdk, lays, Int.toNat_natCast, hft, List.map_set, nums_torn 0 d t (by omega) hd64 ht64]
            congr 2
            rw [HTT.out]
            simp [List.getD, htl, hm]
          have HT' : Hid (∀ s ∈ ts.set m (t.extract 0 64), s.size = 64) := fun s hs => by
            rw [hV] at hs
            rcases List.mem_or_eq_of_mem_set hs with h1 | h1
            · exact HT64.out s h1
            · rw [h1]; exact torn_size 0 d t (by omega) hd64 ht64
          clear hst' hHeld hV
          go_wp2
          go_roundw
          case rel => exact ⟨k + 1, _, by omega, by go_num, by simp [htl], HT', HK', HST'.out⟩
          case measure => simp [intOf]; omega
          
        · by_cases hbig : 64 < z
          · go_wp2_with fail
            have hq := HSR.out.below (below_new wr (.cells #[.int .i64 (m : Int), .string d] 130))
            have hy := Cx.new wr (.int .i64 (m : Int)) (.string d) 130
            obtain ⟨wq, HWQ⟩ : ∃ wq, wq = wr.alloc (.cells #[.int .i64 (m : Int), .string d] 130) := ⟨_, rfl⟩
            rw [← HWQ] at hq hy ⊢
            have hlY : wr.heap.size < wq.heap.size := by rw [HWQ]; simp
            have hgY : g ≠ wr.heap.size := by omega
            have hco' := hq.rs.cell m (.string t) (by rw [HTT.out]; simp [List.getD, htl, hm])
            have hfo' := hq.rs.froz m (by simp [htl, hm])
            have HQ := hid hq
            have HY := hid hy
            have HSV := hid hco'
            have HFO := hid hfo'
            clear hq hy hco' hfo' hco hfo x0 x1 hc0 hc1 HWQ
            refine wp_region_held_drew (S := fun w' => w'.cell? ⟨w2.heap.size, 0, none⟩ = some (.slice (some ⟨g, 0, none⟩) ss.length c1) ∧ w'.cell? ⟨wr.heap.size, 0, none⟩ = some (.int .i64 (m : Int)) ∧ w'.cell? ⟨wr.heap.size, 1, none⟩ = some (.string d)) (by kernel_rfl) ⟨HQ.out.rx.cell 0 _ rfl, HY.out.c0, HY.out.c1⟩ (fun hHeld => ?_)
            refine wpAnyH_take (i := 0) (v := .pointer (some ⟨w2.heap.size, 0, none⟩)) rfl (by kernel_rfl) (by kernel_rfl) (by kernel_rfl) (fun _ _ _ h => h) (Or.inl ⟨by rfl, fun w hw => by obtain ⟨s0, s1, s2⟩ := hw; go_simp; all_goals omega⟩) hHeld ?_
            simp only [Act.put, List.setIfInBounds_toArray, List.set_cons_zero, List.set_cons_succ]
            refine wpAnyH_take (i := 1) (v := .slice (some ⟨g, 0, none⟩) ss.length c1) rfl (by kernel_rfl) (by kernel_rfl) (by kernel_rfl) (fun _ _ _ h => h) (Or.inl ⟨by rfl, fun w hw => by obtain ⟨s0, s1, s2⟩ := hw; go_simp; all_goals omega⟩) hHeld ?_
            simp only [Act.put, List.setIfInBounds_toArray, List.set_cons_zero, List.set_cons_succ]
            refine wpAnyH_take (i := 2) (v := .pointer (some ⟨wr.heap.size, 0, none⟩)) rfl (by kernel_rfl) (by kernel_rfl) (by kernel_rfl) (fun _ _ _ h => h) (Or.inl ⟨by rfl, fun w hw => by obtain ⟨s0, s1, s2⟩ := hw; go_simp; all_goals omega⟩) hHeld ?_
            simp only [Act.put, List.setIfInBounds_toArray, List.set_cons_zero, List.set_cons_succ]
            refine wpAnyH_take (i := 3) (v := .int .i64 (m : Int)) rfl (by kernel_rfl) (by kernel_rfl) (by kernel_rfl) (fun _ _ _ h => h) (Or.inl ⟨by rfl, fun w hw => by obtain ⟨s0, s1, s2⟩ := hw; go_simp; all_goals omega⟩) hHeld ?_
            simp only [Act.put, List.setIfInBounds_toArray, List.set_cons_zero, List.set_cons_succ]
            refine wpAnyH_take (i := 4) (v := .pointer (some ⟨wr.heap.size, 1, none⟩)) rfl (by kernel_rfl) (by kernel_rfl) (by kernel_rfl) (fun _ _ _ h => h) (Or.inl ⟨by rfl, fun w hw => by obtain ⟨s0, s1, s2⟩ := hw; go_simp; all_goals omega⟩) hHeld ?_
            simp only [Act.put, List.setIfInBounds_toArray, List.set_cons_zero, List.set_cons_succ]
            refine wpAnyH_take (i := 5) (v := .string d) rfl (by kernel_rfl) (by kernel_rfl) (by kernel_rfl) (fun _ _ _ h => h) (Or.inl ⟨by rfl, fun w hw => by obtain ⟨s0, s1, s2⟩ := hw; go_simp; all_goals omega⟩) hHeld ?_
            simp only [Act.put, List.setIfInBounds_toArray, List.set_cons_zero, List.set_cons_succ]
            refine wpAnyH_take (i := 6) (v := .int .i64 64) rfl (by kernel_rfl) (by kernel_rfl) (by kernel_rfl) (fun _ _ _ h => h) (Or.inl ⟨by rfl, fun w hw => by obtain ⟨s0, s1, s2⟩ := hw; go_simp; all_goals omega⟩) hHeld ?_
            simp only [Act.put, List.setIfInBounds_toArray, List.set_cons_zero, List.set_cons_succ]
            refine wpAnyH_take (i := 7) (v := .string (d.extract 0 64)) rfl (by kernel_rfl) (by kernel_rfl) (by kernel_rfl) (fun _ _ _ h => h) (Or.inl ⟨by rfl, fun w hw => by obtain ⟨s0, s1, s2⟩ := hw; go_simp; all_goals omega⟩) hHeld ?_
            simp only [Act.put, List.setIfInBounds_toArray, List.set_cons_zero, List.set_cons_succ]
            refine wpAnyH_take (i := 8) (v := .pointer (some ⟨w2.heap.size, 0, none⟩)) rfl (by kernel_rfl) (by kernel_rfl) (by kernel_rfl) (fun _ _ _ h => h) (Or.inl ⟨by rfl, fun w hw => by obtain ⟨s0, s1, s2⟩ := hw; go_simp; all_goals omega⟩) hHeld ?_
            simp only [Act.put, List.setIfInBounds_toArray, List.set_cons_zero, List.set_cons_succ]
            refine wpAnyH_take (i := 9) (v := .slice (some ⟨g, 0, none⟩) ss.length c1) rfl (by kernel_rfl) (by kernel_rfl) (by kernel_rfl) (fun _ _ _ h => h) (Or.inl ⟨by rfl, fun w hw => by obtain ⟨s0, s1, s2⟩ := hw; go_simp; all_goals omega⟩) hHeld ?_
            simp only [Act.put, List.setIfInBounds_toArray, List.set_cons_zero, List.set_cons_succ]
            refine wpAnyH_take (i := 10) (v := .pointer (some ⟨wr.heap.size, 0, none⟩)) rfl (by kernel_rfl) (by kernel_rfl) (by kernel_rfl) (fun _ _ _ h => h) (Or.inl ⟨by rfl, fun w hw => by obtain ⟨s0, s1, s2⟩ := hw; go_simp; all_goals omega⟩) hHeld ?_
            simp only [Act.put, List.setIfInBounds_toArray, List.set_cons_zero, List.set_cons_succ]
            refine wpAnyH_take (i := 11) (v := .int .i64 (m : Int)) rfl (by kernel_rfl) (by kernel_rfl) (by kernel_rfl) (fun _ _ _ h => h) (Or.inl ⟨by rfl, fun w hw => by obtain ⟨s0, s1, s2⟩ := hw; go_simp; all_goals omega⟩) hHeld ?_
            simp only [Act.put, List.setIfInBounds_toArray, List.set_cons_zero, List.set_cons_succ]
            refine wpAnyH_take (i := 12) (v := .pointer (some ⟨g, m, none⟩)) rfl (by kernel_rfl) (by kernel_rfl) (by kernel_rfl) (fun _ _ _ h => h) (Or.inl ⟨by rfl, fun w hw => by obtain ⟨s0, s1, s2⟩ := hw; go_simp; all_goals omega⟩) hHeld ?_
            simp only [Act.put, List.setIfInBounds_toArray, List.set_cons_zero, List.set_cons_succ]
            refine wpAnyH_take (i := 14) (v := .int .i64 64) rfl (by kernel_rfl) (by kernel_rfl) (by kernel_rfl) (fun _ _ _ h => h) (Or.inl ⟨by rfl, fun w hw => by obtain ⟨s0, s1, s2⟩ := hw; go_simp; all_goals omega⟩) hHeld ?_
            simp only [Act.put, List.setIfInBounds_toArray, List.set_cons_zero, List.set_cons_succ]
            refine wpAnyH_ready (rs := [13]) (by kernel_rfl) (by simp) ?_
            refine AllReadyH.cons rfl (fun K hK => ?_) AllReadyH.nil
            have hcg := HSV.out
            go_simp
            clear hcg
            refine hK.out _ _ hHeld (fun _ => ?_)
            clear hK K
            refine wpAnyH_take (i := 15) (v := .string (t.extract 64 t.size)) rfl (by kernel_rfl) (by kernel_rfl) (by kernel_rfl) (fun _ _ _ h => h) (Or.inl ⟨by rfl, fun w hw => by obtain ⟨s0, s1, s2⟩ := hw; go_simp; all_goals omega⟩) hHeld ?_
            simp only [Act.put, List.setIfInBounds_toArray, List.set_cons_zero, List.set_cons_succ]
            refine wpAnyH_take (i := 16) (v := .string (d.extract 0 64 ++ t.extract 64 t.size)) rfl (by kernel_rfl) (by kernel_rfl) (by kernel_rfl) (fun _ _ _ h => h) (Or.inl ⟨by rfl, fun w hw => by obtain ⟨s0, s1, s2⟩ := hw; go_simp; all_goals omega⟩) hHeld ?_
            simp only [Act.put, List.setIfInBounds_toArray, List.set_cons_zero, List.set_cons_succ]
            refine wpAnyH_take (i := 17) (v := .pointer (some ⟨g, m, none⟩)) rfl (by kernel_rfl) (by kernel_rfl) (by kernel_rfl) (fun _ _ _ h => h) (Or.inl ⟨by rfl, fun w hw => by obtain ⟨s0, s1, s2⟩ := hw; go_simp; all_goals omega⟩) hHeld ?_
            simp only [Act.put, List.setIfInBounds_toArray, List.set_cons_zero, List.set_cons_succ]
            refine wpAnyH_ready (rs := [18]) (by kernel_rfl) (by simp) ?_
            refine AllReadyH.cons rfl (fun K hK => ?_) AllReadyH.nil
            have hcg := HSV.out
            have hfg := HFO.out
            go_simp
            clear hcg hfg
            refine hK.out _ _ ⟨(World.cell?_setCell_far _ _ _ _ (by show g ≠ w2.heap.size; omega)).trans hHeld.1, (World.cell?_setCell_far _ _ _ _ (by show g ≠ wr.heap.size; omega)).trans hHeld.2.1, (World.cell?_setCell_far _ _ _ _ (by show g ≠ wr.heap.size; omega)).trans hHeld.2.2⟩ (fun _ => ?_)
            clear hK K
            refine wpAnyH_done (by kernel_rfl) ?_ _
            have hV : d.extract 0 64 = d.extract 0 64 ++ t.extract 64 64 := by simp
            have hst' := HQ.out.drew.set m (by omega) (d.extract 0 64) hwg hRg hXg HNE.out
            have HST' := hid hst'
            have HK' : Hid (lays zs (k + 1) ((hsOf ws).drop (k + 1)) ((ts.set m (d.extract 0 64)).map nums) = RES) := by
              show _ = _
              rw [hV]
              have hft : fate zs k = 64 := by unfold fate; rw [if_pos (by omega), ← HZZ.out, if_neg (by omega), if_pos (by omega)]
              have hdk : (hsOf ws).drop k = ((m : Int), nums d) :: (hsOf ws).drop (k + 1) := by
                rw [drop_at (hsOf ws) k (0, []) (by rw [hsOf_length]; exact hlt)]
                have hgd : (hsOf ws).getD k (0, []) = ((m : Int), nums d) := by
                  have e := HX.out
                  simp [hsOf, List.getD, hlt] at e ⊢
                  rw [← e]
                  exact ⟨rfl, rfl⟩
                rw [hgd]
              rw [← HK.out, hdk, lays, Int.toNat_natCast, hft, List.map_set, nums_torn 64 d t (by omega) hd64 ht64]
              congr 2
              rw [HTT.out]
              simp [List.getD, htl, hm]
            have HT' : Hid (∀ s ∈ ts.set m (d.extract 0 64), s.size = 64) := fun s hs => by
              rw [hV] at hs
              rcases List.mem_or_eq_of_mem_set hs with h1 | h1
              · exact HT64.out s h1
              · rw [h1]; exact torn_size 64 d t (by omega) hd64 ht64
            clear hst' hHeld hV
            go_wp2
            go_roundw
            case rel => exact ⟨k + 1, _, by omega, by go_num, by simp [htl], HT', HK', HST'.out⟩
            case measure => simp [intOf]; omega
            
          · obtain ⟨F, rfl⟩ : ∃ F : Nat, z = (F : Int) := ⟨z.toNat, by omega⟩
            go_wp2_with fail
            have hq := HSR.out.below (below_new wr (.cells #[.int .i64 (m : Int), .string d] 130))
            have hy := Cx.new wr (.int .i64 (m : Int)) (.string d) 130
            obtain ⟨wq, HWQ⟩ : ∃ wq, wq = wr.alloc (.cells #[.int .i64 (m : Int), .string d] 130) := ⟨_, rfl⟩
            rw [← HWQ] at hq hy ⊢
            have hlY : wr.heap.size < wq.heap.size := by rw [HWQ]; simp
            have hgY : g ≠ wr.heap.size := by omega
            have hco' := hq.rs.cell m (.string t) (by rw [HTT.out]; simp [List.getD, htl, hm])
            have hfo' := hq.rs.froz m (by simp [htl, hm])
            have HQ := hid hq
            have HY := hid hy
            have HSV := hid hco'
            have HFO := hid hfo'
            clear hq hy hco' hfo' hco hfo x0 x1 hc0 hc1 HWQ
            refine wp_region_held_drew (S := fun w' => w'.cell? ⟨w2.heap.size, 0, none⟩ = some (.slice (some ⟨g, 0, none⟩) ss.length c1) ∧ w'.cell? ⟨wr.heap.size, 0, none⟩ = some (.int .i64 (m : Int)) ∧ w'.cell? ⟨wr.heap.size, 1, none⟩ = some (.string d)) (by kernel_rfl) ⟨HQ.out.rx.cell 0 _ rfl, HY.out.c0, HY.out.c1⟩ (fun hHeld => ?_)
            refine wpAnyH_take (i := 0) (v := .pointer (some ⟨w2.heap.size, 0, none⟩)) rfl (by kernel_rfl) (by kernel_rfl) (by kernel_rfl) (fun _ _ _ h => h) (Or.inl ⟨by rfl, fun w hw => by obtain ⟨s0, s1, s2⟩ := hw; go_simp; all_goals omega⟩) hHeld ?_
            simp only [Act.put, List.setIfInBounds_toArray, List.set_cons_zero, List.set_cons_succ]
            refine wpAnyH_take (i := 1) (v := .slice (some ⟨g, 0, none⟩) ss.length c1) rfl (by kernel_rfl) (by kernel_rfl) (by kernel_rfl) (fun _ _ _ h => h) (Or.inl ⟨by rfl, fun w hw => by obtain ⟨s0, s1, s2⟩ := hw; go_simp; all_goals omega⟩) hHeld ?_
            simp only [Act.put, List.setIfInBounds_toArray, List.set_cons_zero, List.set_cons_succ]
            refine wpAnyH_take (i := 2) (v := .pointer (some ⟨wr.heap.size, 0, none⟩)) rfl (by kernel_rfl) (by kernel_rfl) (by kernel_rfl) (fun _ _ _ h => h) (Or.inl ⟨by rfl, fun w hw => by obtain ⟨s0, s1, s2⟩ := hw; go_simp; all_goals omega⟩) hHeld ?_
            simp only [Act.put, List.setIfInBounds_toArray, List.set_cons_zero, List.set_cons_succ]
            refine wpAnyH_take (i := 3) (v := .int .i64 (m : Int)) rfl (by kernel_rfl) (by kernel_rfl) (by kernel_rfl) (fun _ _ _ h => h) (Or.inl ⟨by rfl, fun w hw => by obtain ⟨s0, s1, s2⟩ := hw; go_simp; all_goals omega⟩) hHeld ?_
            simp only [Act.put, List.setIfInBounds_toArray, List.set_cons_zero, List.set_cons_succ]
            refine wpAnyH_take (i := 4) (v := .pointer (some ⟨wr.heap.size, 1, none⟩)) rfl (by kernel_rfl) (by kernel_rfl) (by kernel_rfl) (fun _ _ _ h => h) (Or.inl ⟨by rfl, fun w hw => by obtain ⟨s0, s1, s2⟩ := hw; go_simp; all_goals omega⟩) hHeld ?_
            simp only [Act.put, List.setIfInBounds_toArray, List.set_cons_zero, List.set_cons_succ]
            refine wpAnyH_take (i := 5) (v := .string d) rfl (by kernel_rfl) (by kernel_rfl) (by kernel_rfl) (fun _ _ _ h => h) (Or.inl ⟨by rfl, fun w hw => by obtain ⟨s0, s1, s2⟩ := hw; go_simp; all_goals omega⟩) hHeld ?_
            simp only [Act.put, List.setIfInBounds_toArray, List.set_cons_zero, List.set_cons_succ]
            refine wpAnyH_take (i := 6) (v := .int .i64 (F : Int)) rfl (by kernel_rfl) (by kernel_rfl) (by kernel_rfl) (fun _ _ _ h => h) (Or.inl ⟨by rfl, fun w hw => by obtain ⟨s0, s1, s2⟩ := hw; go_simp; all_goals omega⟩) hHeld ?_
            simp only [Act.put, List.setIfInBounds_toArray, List.set_cons_zero, List.set_cons_succ]
            refine wpAnyH_take (i := 7) (v := .string (d.extract 0 F)) rfl (by kernel_rfl) (by kernel_rfl) (by kernel_rfl) (fun _ _ _ h => h) (Or.inl ⟨by rfl, fun w hw => by obtain ⟨s0, s1, s2⟩ := hw; go_simp; all_goals omega⟩) hHeld ?_
            simp only [Act.put, List.setIfInBounds_toArray, List.set_cons_zero, List.set_cons_succ]
            refine wpAnyH_take (i := 8) (v := .pointer (some ⟨w2.heap.size, 0, none⟩)) rfl (by kernel_rfl) (by kernel_rfl) (by kernel_rfl) (fun _ _ _ h => h) (Or.inl ⟨by rfl, fun w hw => by obtain ⟨s0, s1, s2⟩ := hw; go_simp; all_goals omega⟩) hHeld ?_
            simp only [Act.put, List.setIfInBounds_toArray, List.set_cons_zero, List.set_cons_succ]
            refine wpAnyH_take (i := 9) (v := .slice (some ⟨g, 0, none⟩) ss.length c1) rfl (by kernel_rfl) (by kernel_rfl) (by kernel_rfl) (fun _ _ _ h => h) (Or.inl ⟨by rfl, fun w hw => by obtain ⟨s0, s1, s2⟩ := hw; go_simp; all_goals omega⟩) hHeld ?_
            simp only [Act.put, List.setIfInBounds_toArray, List.set_cons_zero, List.set_cons_succ]
            refine wpAnyH_take (i := 10) (v := .pointer (some ⟨wr.heap.size, 0, none⟩)) rfl (by kernel_rfl) (by kernel_rfl) (by kernel_rfl) (fun _ _ _ h => h) (Or.inl ⟨by rfl, fun w hw => by obtain ⟨s0, s1, s2⟩ := hw; go_simp; all_goals omega⟩) hHeld ?_
            simp only [Act.put, List.setIfInBounds_toArray, List.set_cons_zero, List.set_cons_succ]
            refine wpAnyH_take (i := 11) (v := .int .i64 (m : Int)) rfl (by kernel_rfl) (by kernel_rfl) (by kernel_rfl) (fun _ _ _ h => h) (Or.inl ⟨by rfl, fun w hw => by obtain ⟨s0, s1, s2⟩ := hw; go_simp; all_goals omega⟩) hHeld ?_
            simp only [Act.put, List.setIfInBounds_toArray, List.set_cons_zero, List.set_cons_succ]
            refine wpAnyH_take (i := 12) (v := .pointer (some ⟨g, m, none⟩)) rfl (by kernel_rfl) (by kernel_rfl) (by kernel_rfl) (fun _ _ _ h => h) (Or.inl ⟨by rfl, fun w hw => by obtain ⟨s0, s1, s2⟩ := hw; go_simp; all_goals omega⟩) hHeld ?_
            simp only [Act.put, List.setIfInBounds_toArray, List.set_cons_zero, List.set_cons_succ]
            refine wpAnyH_take (i := 14) (v := .int .i64 (F : Int)) rfl (by kernel_rfl) (by kernel_rfl) (by kernel_rfl) (fun _ _ _ h => h) (Or.inl ⟨by rfl, fun w hw => by obtain ⟨s0, s1, s2⟩ := hw; go_simp; all_goals omega⟩) hHeld ?_
            simp only [Act.put, List.setIfInBounds_toArray, List.set_cons_zero, List.set_cons_succ]
            refine wpAnyH_ready (rs := [13]) (by kernel_rfl) (by simp) ?_
            refine AllReadyH.cons rfl (fun K hK => ?_) AllReadyH.nil
            have hcg := HSV.out
            go_simp
            clear hcg
            refine hK.out _ _ hHeld (fun _ => ?_)
            clear hK K
            refine wpAnyH_take (i := 15) (v := .string (t.extract F t.size)) rfl (by kernel_rfl) (by kernel_rfl) (by kernel_rfl) (fun _ _ _ h => h) (Or.inl ⟨by rfl, fun w hw => by obtain ⟨s0, s1, s2⟩ := hw; go_simp; all_goals omega⟩) hHeld ?_
            simp only [Act.put, List.setIfInBounds_toArray, List.set_cons_zero, List.set_cons_succ]
            refine wpAnyH_take (i := 16) (v := .string (d.extract 0 F ++ t.extract F t.size)) rfl (by kernel_rfl) (by kernel_rfl) (by kernel_rfl) (fun _ _ _ h => h) (Or.inl ⟨by rfl, fun w hw => by obtain ⟨s0, s1, s2⟩ := hw; go_simp; all_goals omega⟩) hHeld ?_
            simp only [Act.put, List.setIfInBounds_toArray, List.set_cons_zero, List.set_cons_succ]
            refine wpAnyH_take (i := 17) (v := .pointer (some ⟨g, m, none⟩)) rfl (by kernel_rfl) (by kernel_rfl) (by kernel_rfl) (fun _ _ _ h => h) (Or.inl ⟨by rfl, fun w hw => by obtain ⟨s0, s1, s2⟩ := hw; go_simp; all_goals omega⟩) hHeld ?_
            simp only [Act.put, List.setIfInBounds_toArray, List.set_cons_zero, List.set_cons_succ]
            refine wpAnyH_ready (rs := [18]) (by kernel_rfl) (by simp) ?_
            refine AllReadyH.cons rfl (fun K hK => ?_) AllReadyH.nil
            have hcg := HSV.out
            have hfg := HFO.out
            go_simp
            clear hcg hfg
            refine hK.out _ _ ⟨(World.cell?_setCell_far _ _ _ _ (by show g ≠ w2.heap.size; omega)).trans hHeld.1, (World.cell?_setCell_far _ _ _ _ (by show g ≠ wr.heap.size; omega)).trans hHeld.2.1, (World.cell?_setCell_far _ _ _ _ (by show g ≠ wr.heap.size; omega)).trans hHeld.2.2⟩ (fun _ => ?_)
            clear hK K
            refine wpAnyH_done (by kernel_rfl) ?_ _
            have hV : d.extract 0 F ++ t.extract F 64 = d.extract 0 F ++ t.extract F 64 := by rfl
            have hst' := HQ.out.drew.set m (by omega) (d.extract 0 F ++ t.extract F 64) hwg hRg hXg HNE.out
            have HST' := hid hst'
            have HK' : Hid (lays zs (k + 1) ((hsOf ws).drop (k + 1)) ((ts.set m (d.extract 0 F ++ t.extract F 64)).map nums) = RES) := by
              show _ = _
              rw [hV]
              have hft : fate zs k = F := by unfold fate; rw [if_pos (by omega), ← HZZ.out, if_neg (by omega), if_neg (by omega)]; simp
              have hdk : (hsOf ws).drop k = ((m : Int), nums d) :: (hsOf ws).drop (k + 1) := by
                rw [drop_at (hsOf ws) k (0, []) (by rw [hsOf_length]; exact hlt)]
                have hgd : (hsOf ws).getD k (0, []) = ((m : Int), nums d) := by
                  have e := HX.out
                  simp [hsOf, List.getD, hlt] at e ⊢
                  rw [← e]
                  exact ⟨rfl, rfl⟩
                rw [hgd]
              rw [← HK.out, hdk, lays, Int.toNat_natCast, hft, List.map_set, nums_torn F d t (by omega) hd64 ht64]
              congr 2
              rw [HTT.out]
              simp [List.getD, htl, hm]
            have HT' : Hid (∀ s ∈ ts.set m (d.extract 0 F ++ t.extract F 64), s.size = 64) := fun s hs => by
              rw [hV] at hs
              rcases List.mem_or_eq_of_mem_set hs with h1 | h1
              · exact HT64.out s h1
              · rw [h1]; exact torn_size F d t (by omega) hd64 ht64
            clear hst' hHeld hV
            go_wp2
            go_roundw
            case rel => exact ⟨k + 1, _, by omega, by go_num, by simp [htl], HT', HK', HST'.out⟩
            case measure => simp [intOf]; omega
            
      · go_wp2_with fail
        have hq := HSR.out.below (below_new wr (.cells #[.int .i64 (m : Int), .string d] 130))
        have hy := Cx.new wr (.int .i64 (m : Int)) (.string d) 130
        obtain ⟨wq, HWQ⟩ : ∃ wq, wq = wr.alloc (.cells #[.int .i64 (m : Int), .string d] 130) := ⟨_, rfl⟩
        rw [← HWQ] at hq hy ⊢
        have hlY : wr.heap.size < wq.heap.size := by rw [HWQ]; simp
        have hgY : g ≠ wr.heap.size := by omega
        have hco' := hq.rs.cell m (.string t) (by rw [HTT.out]; simp [List.getD, htl, hm])
        have hfo' := hq.rs.froz m (by simp [htl, hm])
        have HQ := hid hq
        have HY := hid hy
        have HSV := hid hco'
        have HFO := hid hfo'
        clear hq hy hco' hfo' hco hfo x0 x1 hc0 hc1 HWQ
        refine wp_region_held_drew (S := fun w' => w'.cell? ⟨w2.heap.size, 0, none⟩ = some (.slice (some ⟨g, 0, none⟩) ss.length c1) ∧ w'.cell? ⟨wr.heap.size, 0, none⟩ = some (.int .i64 (m : Int)) ∧ w'.cell? ⟨wr.heap.size, 1, none⟩ = some (.string d)) (by kernel_rfl) ⟨HQ.out.rx.cell 0 _ rfl, HY.out.c0, HY.out.c1⟩ (fun hHeld => ?_)
        refine wpAnyH_take (i := 0) (v := .pointer (some ⟨w2.heap.size, 0, none⟩)) rfl (by kernel_rfl) (by kernel_rfl) (by kernel_rfl) (fun _ _ _ h => h) (Or.inl ⟨by rfl, fun w hw => by obtain ⟨s0, s1, s2⟩ := hw; go_simp; all_goals omega⟩) hHeld ?_
        simp only [Act.put, List.setIfInBounds_toArray, List.set_cons_zero, List.set_cons_succ]
        refine wpAnyH_take (i := 1) (v := .slice (some ⟨g, 0, none⟩) ss.length c1) rfl (by kernel_rfl) (by kernel_rfl) (by kernel_rfl) (fun _ _ _ h => h) (Or.inl ⟨by rfl, fun w hw => by obtain ⟨s0, s1, s2⟩ := hw; go_simp; all_goals omega⟩) hHeld ?_
        simp only [Act.put, List.setIfInBounds_toArray, List.set_cons_zero, List.set_cons_succ]
        refine wpAnyH_take (i := 2) (v := .pointer (some ⟨wr.heap.size, 0, none⟩)) rfl (by kernel_rfl) (by kernel_rfl) (by kernel_rfl) (fun _ _ _ h => h) (Or.inl ⟨by rfl, fun w hw => by obtain ⟨s0, s1, s2⟩ := hw; go_simp; all_goals omega⟩) hHeld ?_
        simp only [Act.put, List.setIfInBounds_toArray, List.set_cons_zero, List.set_cons_succ]
        refine wpAnyH_take (i := 3) (v := .int .i64 (m : Int)) rfl (by kernel_rfl) (by kernel_rfl) (by kernel_rfl) (fun _ _ _ h => h) (Or.inl ⟨by rfl, fun w hw => by obtain ⟨s0, s1, s2⟩ := hw; go_simp; all_goals omega⟩) hHeld ?_
        simp only [Act.put, List.setIfInBounds_toArray, List.set_cons_zero, List.set_cons_succ]
        refine wpAnyH_take (i := 4) (v := .pointer (some ⟨wr.heap.size, 1, none⟩)) rfl (by kernel_rfl) (by kernel_rfl) (by kernel_rfl) (fun _ _ _ h => h) (Or.inl ⟨by rfl, fun w hw => by obtain ⟨s0, s1, s2⟩ := hw; go_simp; all_goals omega⟩) hHeld ?_
        simp only [Act.put, List.setIfInBounds_toArray, List.set_cons_zero, List.set_cons_succ]
        refine wpAnyH_take (i := 5) (v := .string d) rfl (by kernel_rfl) (by kernel_rfl) (by kernel_rfl) (fun _ _ _ h => h) (Or.inl ⟨by rfl, fun w hw => by obtain ⟨s0, s1, s2⟩ := hw; go_simp; all_goals omega⟩) hHeld ?_
        simp only [Act.put, List.setIfInBounds_toArray, List.set_cons_zero, List.set_cons_succ]
        refine wpAnyH_take (i := 6) (v := .int .i64 0) rfl (by kernel_rfl) (by kernel_rfl) (by kernel_rfl) (fun _ _ _ h => h) (Or.inl ⟨by rfl, fun w hw => by obtain ⟨s0, s1, s2⟩ := hw; go_simp; all_goals omega⟩) hHeld ?_
        simp only [Act.put, List.setIfInBounds_toArray, List.set_cons_zero, List.set_cons_succ]
        refine wpAnyH_take (i := 7) (v := .string (d.extract 0 0)) rfl (by kernel_rfl) (by kernel_rfl) (by kernel_rfl) (fun _ _ _ h => h) (Or.inl ⟨by rfl, fun w hw => by obtain ⟨s0, s1, s2⟩ := hw; go_simp; all_goals omega⟩) hHeld ?_
        simp only [Act.put, List.setIfInBounds_toArray, List.set_cons_zero, List.set_cons_succ]
        refine wpAnyH_take (i := 8) (v := .pointer (some ⟨w2.heap.size, 0, none⟩)) rfl (by kernel_rfl) (by kernel_rfl) (by kernel_rfl) (fun _ _ _ h => h) (Or.inl ⟨by rfl, fun w hw => by obtain ⟨s0, s1, s2⟩ := hw; go_simp; all_goals omega⟩) hHeld ?_
        simp only [Act.put, List.setIfInBounds_toArray, List.set_cons_zero, List.set_cons_succ]
        refine wpAnyH_take (i := 9) (v := .slice (some ⟨g, 0, none⟩) ss.length c1) rfl (by kernel_rfl) (by kernel_rfl) (by kernel_rfl) (fun _ _ _ h => h) (Or.inl ⟨by rfl, fun w hw => by obtain ⟨s0, s1, s2⟩ := hw; go_simp; all_goals omega⟩) hHeld ?_
        simp only [Act.put, List.setIfInBounds_toArray, List.set_cons_zero, List.set_cons_succ]
        refine wpAnyH_take (i := 10) (v := .pointer (some ⟨wr.heap.size, 0, none⟩)) rfl (by kernel_rfl) (by kernel_rfl) (by kernel_rfl) (fun _ _ _ h => h) (Or.inl ⟨by rfl, fun w hw => by obtain ⟨s0, s1, s2⟩ := hw; go_simp; all_goals omega⟩) hHeld ?_
        simp only [Act.put, List.setIfInBounds_toArray, List.set_cons_zero, List.set_cons_succ]
        refine wpAnyH_take (i := 11) (v := .int .i64 (m : Int)) rfl (by kernel_rfl) (by kernel_rfl) (by kernel_rfl) (fun _ _ _ h => h) (Or.inl ⟨by rfl, fun w hw => by obtain ⟨s0, s1, s2⟩ := hw; go_simp; all_goals omega⟩) hHeld ?_
        simp only [Act.put, List.setIfInBounds_toArray, List.set_cons_zero, List.set_cons_succ]
        refine wpAnyH_take (i := 12) (v := .pointer (some ⟨g, m, none⟩)) rfl (by kernel_rfl) (by kernel_rfl) (by kernel_rfl) (fun _ _ _ h => h) (Or.inl ⟨by rfl, fun w hw => by obtain ⟨s0, s1, s2⟩ := hw; go_simp; all_goals omega⟩) hHeld ?_
        simp only [Act.put, List.setIfInBounds_toArray, List.set_cons_zero, List.set_cons_succ]
        refine wpAnyH_take (i := 14) (v := .int .i64 0) rfl (by kernel_rfl) (by kernel_rfl) (by kernel_rfl) (fun _ _ _ h => h) (Or.inl ⟨by rfl, fun w hw => by obtain ⟨s0, s1, s2⟩ := hw; go_simp; all_goals omega⟩) hHeld ?_
        simp only [Act.put, List.setIfInBounds_toArray, List.set_cons_zero, List.set_cons_succ]
        refine wpAnyH_ready (rs := [13]) (by kernel_rfl) (by simp) ?_
        refine AllReadyH.cons rfl (fun K hK => ?_) AllReadyH.nil
        have hcg := HSV.out
        go_simp
        clear hcg
        refine hK.out _ _ hHeld (fun _ => ?_)
        clear hK K
        refine wpAnyH_take (i := 15) (v := .string (t.extract 0 t.size)) rfl (by kernel_rfl) (by kernel_rfl) (by kernel_rfl) (fun _ _ _ h => h) (Or.inl ⟨by rfl, fun w hw => by obtain ⟨s0, s1, s2⟩ := hw; go_simp; all_goals omega⟩) hHeld ?_
        simp only [Act.put, List.setIfInBounds_toArray, List.set_cons_zero, List.set_cons_succ]
        refine wpAnyH_take (i := 16) (v := .string (d.extract 0 0 ++ t.extract 0 t.size)) rfl (by kernel_rfl) (by kernel_rfl) (by kernel_rfl) (fun _ _ _ h => h) (Or.inl ⟨by rfl, fun w hw => by obtain ⟨s0, s1, s2⟩ := hw; go_simp; all_goals omega⟩) hHeld ?_
        simp only [Act.put, List.setIfInBounds_toArray, List.set_cons_zero, List.set_cons_succ]
        refine wpAnyH_take (i := 17) (v := .pointer (some ⟨g, m, none⟩)) rfl (by kernel_rfl) (by kernel_rfl) (by kernel_rfl) (fun _ _ _ h => h) (Or.inl ⟨by rfl, fun w hw => by obtain ⟨s0, s1, s2⟩ := hw; go_simp; all_goals omega⟩) hHeld ?_
        simp only [Act.put, List.setIfInBounds_toArray, List.set_cons_zero, List.set_cons_succ]
        refine wpAnyH_ready (rs := [18]) (by kernel_rfl) (by simp) ?_
        refine AllReadyH.cons rfl (fun K hK => ?_) AllReadyH.nil
        have hcg := HSV.out
        have hfg := HFO.out
        go_simp
        clear hcg hfg
        refine hK.out _ _ ⟨(World.cell?_setCell_far _ _ _ _ (by show g ≠ w2.heap.size; omega)).trans hHeld.1, (World.cell?_setCell_far _ _ _ _ (by show g ≠ wr.heap.size; omega)).trans hHeld.2.1, (World.cell?_setCell_far _ _ _ _ (by show g ≠ wr.heap.size; omega)).trans hHeld.2.2⟩ (fun _ => ?_)
        clear hK K
        refine wpAnyH_done (by kernel_rfl) ?_ _
        have hV : t.extract 0 64 = d.extract 0 0 ++ t.extract 0 64 := by simp
        have hst' := HQ.out.drew.set m (by omega) (t.extract 0 64) hwg hRg hXg HNE.out
        have HST' := hid hst'
        have HK' : Hid (lays zs (k + 1) ((hsOf ws).drop (k + 1)) ((ts.set m (t.extract 0 64)).map nums) = RES) := by
          show _ = _
          rw [hV]
          have hft : fate zs k = 0 := by unfold fate; rw [if_neg (by omega)]
          have hdk : (hsOf ws).drop k = ((m : Int), nums d) :: (hsOf ws).drop (k + 1) := by
            rw [drop_at (hsOf ws) k (0, []) (by rw [hsOf_length]; exact hlt)]
            have hgd : (hsOf ws).getD k (0, []) = ((m : Int), nums d) := by
              have e := HX.out
              simp [hsOf, List.getD, hlt] at e ⊢
              rw [← e]
              exact ⟨rfl, rfl⟩
            rw [hgd]
          rw [← HK.out, hdk, lays, Int.toNat_natCast, hft, List.map_set, nums_torn 0 d t (by omega) hd64 ht64]
          congr 2
          rw [HTT.out]
          simp [List.getD, htl, hm]
        have HT' : Hid (∀ s ∈ ts.set m (t.extract 0 64), s.size = 64) := fun s hs => by
          rw [hV] at hs
          rcases List.mem_or_eq_of_mem_set hs with h1 | h1
          · exact HT64.out s h1
          · rw [h1]; exact torn_size 0 d t (by omega) hd64 ht64
        clear hst' hHeld hV
        go_wp2
        go_roundw
        case rel => exact ⟨k + 1, _, by omega, by go_num, by simp [htl], HT', HK', HST'.out⟩
        case measure => simp [intOf]; omega
        
    · have hres : Hid (ts = secs RES) := by
        have := HK.out
        rw [List.drop_of_length_le (by rw [hsOf_length]; omega)] at this
        show _ = _
        rw [← this]
        show ts = (ts.map nums).map strOfNums
        rw [List.map_map]
        exact (List.map_id'' (fun s => strOfNums_nums s) ts).symm
      rw [hres.out] at hst
      have HSR := hid hst
      have q0 := hst.rx.cell 0 _ rfl
      have q1 := hst.rx.cell 1 _ rfl
      have f1 := hst.rx.froz 1 (by simp)
      have r0 := hst.rr.cell 0 _ rfl
      have r1 := hst.rr.cell 1 _ rfl
      have fr0 := hst.rr.froz 0 (by simp)
      have fr1 := hst.rr.froz 1 (by simp)
      have hlX := hst.rx.lt
      have hlR := hst.rr.lt
      have n1 : w2.heap.size ≠ w.heap.size + 1 := by omega
      clear hst
      go_wp2
      have ne0 : wr.heap.size ≠ w.heap.size + 1 := by omega
      refine bodyPost_ret (v := diskV (some ⟨g, 0, none⟩) ss.length c1 (some ⟨wr.heap.size, 0, none⟩) 0 0) (by simp [results, Try.results24, go_sem, r0, r1, n1, ne0, hlR]) rfl ⟨_, _, _, _, rfl, ⟨.inr ⟨g, rfl, ?_⟩, .inl rfl, .inr (.inl rfl)⟩, fun k hk => ?_, ?_⟩
      · exact ((((HSR.out.rs.other _ (by show w2.heap.size ≠ g; exact hXg) _).other _ (by show w.heap.size + 1 ≠ g; exact hRg) _).other _ (by show w.heap.size + 1 ≠ g; exact hRg) _)).alloc _
      · unfold blk at hk
        rw [if_neg hlen] at hk
        cases hk
        exact hwg
      · exact (((HSR.out.bel.setCell (by show w.heap.size ≤ w2.heap.size; omega) _).setCell (by show w.heap.size ≤ w.heap.size + 1; omega) _).setCell (by show w.heap.size ≤ w.heap.size + 1; omega) _).alloc (by simp; omega) _
end Go.Proofs.Ytnmaknnnmjfhkad
