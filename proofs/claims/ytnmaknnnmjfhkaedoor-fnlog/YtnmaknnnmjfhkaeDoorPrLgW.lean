import Derived.Deep.Cut
import Derived.Deep.CutRange
import Derived.Test.YtnmaknnnmjfhkaeDoorPrG31
import Derived.Test.YtnmaknnnmjfhkaeDoorPrG24
import Derived.Test.YtnmaknnnmjfhkaeDoorPrDcD
import Derived.Test.YtnmaknnnmjfhkaeDoorPrG26
import Derived.Test.YtnmaknnnmjfhkaeDoorPrPageI
import Derived.Test.YtnmaknnnmjfhkaeDoorPrG32
namespace Go.Proofs.YtnmaknnnmjfhkaeDoor
open Go.RowKit
set_option linter.unusedVariables false
set_option linter.unusedSimpArgs false
set_option maxRecDepth 8000
theorem step_callL {P : Program} {ops : Array Oper} {o : Oper} {a : Act} {w : World} {K : Act → World → Prop} {Q : Exit → Act → World → Prop} {E : Prop} (hw : Region.wanted o (yielded ops a.tmps) = true) (f : FuncId) (args : Array Value)
    (hrun : (execOp a.eval o).run P w = .ok (.enter f args) w) {C : Ending → World → Prop} (hc : Calls P f args w C) (h : ∀ e w', C e w' → ∃ v, e = .returned v ∧ K (a.put o.dst v) w') :
    if Region.wanted o (yielded ops a.tmps) = true then Oper.wp P o a w K Q else E := by
  rw [if_pos hw]
  unfold Oper.wp
  rw [hrun, Oper.upon_enter]
  refine hc.mono fun e w'' hh => ?_
  obtain ⟨v, rfl, hk⟩ := h e w'' hh
  exact hk
set_option maxHeartbeats 16000000 in
theorem lg_walk (a : Option Addr) (n c : Nat) (w : World) (h : Bys w a n) (hc : n ≤ c) (hm : n ≤ maxLen) (ty : TypeId) (gv : Value) (g1 : w.cell? ⟨1, 0, none⟩ = some (.iface ty gv)) (g0 : w.cell? ⟨0, 0, none⟩ = some (.iface 177 (.agg #[.pointer (some ⟨2, 91, none⟩)]))) (gl : 1 < w.heap.size) :
    Calls Tryd.prog 3 #[.slice a n c] w fun e w' => e = .returned (.bool true) ∧ Below w.heap.size w w' := by
  unfold maxLen at hm
  by_cases hn : n ≤ 1048576
  · have hn' : ¬ (1048576 < (n : Int)) := by omega
    have HG : Hid (∀ wx, Below w.heap.size w wx → wx.cell? ⟨1, 0, none⟩ = some (.iface ty gv) ∧ wx.cell? ⟨0, 0, none⟩ = some (.iface 177 (.agg #[.pointer (some ⟨2, 91, none⟩)])) ∧ 1 < wx.heap.size) := fun wx hb => ⟨(hb.cell (p := ⟨1, 0, none⟩) gl).trans g1, (hb.cell (p := ⟨0, 0, none⟩) (by show 0 < _; omega)).trans g0, by have := hb.size; omega⟩
    have HBY := hid h
    clear g0 g1 gl h
    go_enter Tryd.func3, Tryd.ntmps3
    go_wp2_with fail
    refine (dcut_r a n c _ HBY.out hn hc).mono ?_
    rintro e w1 ⟨⟨t, l, f, wd, rfl, ht, hl, hf, hwd⟩, be1⟩
    clear HBY hn hn'
    by_cases hW : 1 ≤ wd ∧ wd ≤ 8
    · obtain ⟨wn, rfl⟩ : ∃ x : Nat, wd = (x : Int) := ⟨wd.toNat, by omega⟩
      obtain ⟨m, hmm⟩ : ∃ m, wn + m = 56 := ⟨56 - wn, by omega⟩
      have hw8 : 1 ≤ wn ∧ wn ≤ 8 := by omega
      clear hW hwd
      have HNP := hid (npg_eq t.size wn m hmm hw8)
      have HCS : Hid (∀ K, (cutAll t l f wn m).length = K → K ≠ 0 → K = nparts t.size m ∧ 1 ≤ l ∧ l ≤ 60000 ∧ 1 ≤ f) := fun K => cut_some
      obtain ⟨K, hK⟩ : ∃ x, (cutAll t l f wn m).length = x := ⟨_, rfl⟩
      have HC1 := hid (fun wx => ct_one t l f wn m _ K wx (by omega) hmm hw8 (by omega) rfl hK)
      have HC2 := hid (fun wx => cs_one t l f wn m _ K wx (by omega) hmm hw8 rfl hK)
      have hKs : K ≤ 1048576 := by by_cases h0 : K = 0; omega; have := (HCS.out K hK h0).1; have := nparts_le t.size m; omega
      obtain ⟨NP, hNP⟩ : ∃ x, x = npages t.size (wn : Int) := ⟨_, rfl⟩
      have HP1 := hid (fun wx => pages_i t (wn : Int) wx (by omega))
      have HP2 := hid (fun wx => pages_s t (wn : Int) wx (by omega))
      rw [← hNP] at HP1 HP2
      go_wp2_with fail
      refine (HC1.out _).mono ?_
      rintro e w2 ⟨pa, pc, rfl, sp, -, hb2⟩
      have be2 := be1.trans (hb2.mono be1.size)
      go_wp2_with fail
      refine (HC2.out _).mono ?_
      rintro e w3 ⟨qa, qc, rfl, sq, hb3⟩
      have be3 := be2.trans (hb3.mono be2.size)
      have sp := sp.below hb3
      clear hb2 hb3
      go_wp2_with fail
      refine (wt_k pa qa _ K pc qc _ sp sq hK hKs).mono ?_
      rintro e w4 ⟨rfl, hb4⟩
      have be4 := be3.trans (hb4.mono be3.size)
      clear hb4 sp sq HC1 HC2
      go_wp2_with fail
      refine (HP1.out _).mono ?_
      rintro e w5 ⟨rfl, hb5⟩
      have be5 := be4.trans (hb5.mono be4.size)
      clear hb5
      go_wp2_with fail
      refine (HP2.out _).mono ?_
      rintro e w6 ⟨rfl, hb6⟩
      have be6 := be5.trans (hb6.mono be5.size)
      clear hb6 HP2
      go_upto_region 7 with fail
      by_cases hK0 : K = 0
      · subst hK0
        go_wp2
        go_ret
        exact ⟨rfl, be6⟩
      obtain ⟨hKn, hl1, hl2, hf1⟩ := HCS.out K hK hK0
      have hNK : NP = (K : Int) := by rw [hNP, HNP.out, hKn]
      clear hNP HNP
      subst hNK
      have HKN := hid hKn
      clear hKn HCS hK
      have hKi : ¬ ((K : Int) = 0) := by omega
      have hKb : ((K : Int) == 0) = false := by simp; omega
      have hKc : ((K : Int) != (K : Int)) = false := by simp
      by_cases h300 : 300 < (t.size : Int)
      · go_wp2_with fail
        refine (HP1.out _).mono ?_
        rintro e w7 ⟨rfl, hb7⟩
        have be7 := be6.trans (hb7.mono be6.size)
        go_wp2
        go_ret
        exact ⟨rfl, be7⟩
      by_cases hf9 : 999999900 < f
      · go_wp2_with fail
        refine (HP1.out _).mono ?_
        rintro e w7 ⟨rfl, hb7⟩
        have be7 := be6.trans (hb7.mono be6.size)
        go_wp2
        go_ret
        exact ⟨rfl, be7⟩
      by_cases hl9 : 59998 < l
      · go_wp2_with fail
        refine (HP1.out _).mono ?_
        rintro e w7 ⟨rfl, hb7⟩
        have be7 := be6.trans (hb7.mono be6.size)
        go_wp2
        go_ret
        exact ⟨rfl, be7⟩
      clear HP1
      obtain ⟨e3, he3⟩ : ∃ x, x = t ++ ⟨#[101, 110, 100]⟩ := ⟨_, rfl⟩
      have hes : e3.size = t.size + 3 := by rw [he3, ByteArray.size_append]; rfl
      obtain ⟨N3, hN3⟩ : ∃ x, x = nparts e3.size m := ⟨_, rfl⟩
      obtain ⟨NN, hNN⟩ : ∃ x, x = K + 1 + N3 := ⟨_, rfl⟩
      have HL : Hid (Lg t e3 l f wn m K N3 NN) := hid ⟨⟨hmm, hw8, by omega, by omega, by omega⟩, by omega, HKN.out, hN3, hNN⟩
      have HN3 := hid hN3
      obtain ⟨bK, -, b3, b31, -⟩ := HL.out.b
      clear hN3
      have HL3 := hid (npg_eq e3.size wn m hmm hw8)
      go_wp2_with fail
      refine (nw_one _).mono ?_
      rintro e w7 ⟨a0, c0, a1, c1, rfl, dk, hb7⟩
      have be7 := be6.trans (hb7.mono be6.size)
      clear hb7 be1 be2 be3 be4 be5 be6
      have rB := row_new w7 #[.slice a0 100 c0, .slice a1 0 c1] 31
      have n1 : ∀ g, blk a0 100 = some g → g ≠ w7.heap.size := fun g hg => by have := dk.s.lt 100 (fun _ => strs_ne (by rw [lgS_len]; omega)) g hg; omega
      have be8 := be7.trans ((below_nw w7 (.cells #[.slice a0 100 c0, .slice a1 0 c1] 31)).mono be7.size)
      have dk := dk.below (below_nw w7 (.cells #[.slice a0 100 c0, .slice a1 0 c1] 31))
      obtain ⟨B, e_B⟩ : ∃ x, x = w7.heap.size := ⟨_, rfl⟩
      obtain ⟨w8, e_w8⟩ : ∃ x, x = w7.alloc (.cells #[.slice a0 100 c0, .slice a1 0 c1] 31) := ⟨_, rfl⟩
      have bB : w.heap.size ≤ B := by rw [e_B]; exact be7.size
      rw [← e_w8, ← e_B] at rB
      rw [← e_w8] at be8 dk
      rw [← e_B] at n1
      have hz3 : ¬ (9223372036854775807 < t.size + 3) := by omega
      go_wp2_with fail
      have hAl := below_nw w8 (.cells #[.string t, .string ⟨#[]⟩, .string e3] 9)
      have rG := row_new w8 #[.string t, .string ⟨#[]⟩, .string e3] 9
      have rB := rB.below hAl
      have dk := dk.below hAl
      have be9 := be8.trans (hAl.mono be8.size)
      obtain ⟨G, e_G⟩ : ∃ x, x = w7.heap.size + 1 := ⟨_, rfl⟩
      have e_G8 : w8.heap.size = G := by rw [e_w8, e_G]; simp
      obtain ⟨w9, e_w9⟩ : ∃ x, x = w8.alloc (.cells #[.string t, .string ⟨#[]⟩, .string e3] 9) := ⟨_, rfl⟩
      rw [← e_w9] at rG rB dk be9
      rw [e_G8] at rG
      rw [← e_w8, ← he3, ← e_w9, ← e_G, ← e_B]
      have HE3 := hid he3
      have H300 : Hid (t.size ≤ 300) := hid (by omega)
      clear he3
      have hGB : G ≠ B := by omega
      clear e_w9 e_G8 e_w8 be8 be7 hAl
      clear e_G
      clear e_B
      obtain ⟨PP, hPP⟩ : ∃ x, x = lgP t e3 l f wn m := ⟨_, rfl⟩
      have I0 : LgI w w9 B G t e3 (PP.take 0) 0 a0 c0 a1 c1 := ⟨be9, rB, (by rw [List.take_zero]; exact dk), by rw [List.take_zero]; rfl, n1, fun g hg => (by cases hg), rG⟩
      clear be9 rB dk n1 rG
      have hGz : G = G := rfl
      have HPP := hid hPP
      clear hPP hGz
      have hNb : NN ≤ 19 := by omega
      go_loopw [10, 11] (fun nv iv wr => ∃ (i q : Nat) (a0 : Option Addr) (c0 : Nat) (a1 : Option Addr) (c1 : Nat), i ≤ 3 ∧ Hid (q = lgOff K N3 i) ∧ nv = .int .i64 (q : Int) ∧ iv = .int .i64 (i : Int) ∧ LgI w wr B G t e3 (PP.take q) q a0 c0 a1 c1) (fun _ iv _ => 3 - (intOf iv).toNat)
      case atStart => exact ⟨0, 0, a0, c0, a1, c1, by omega, hid rfl, rfl, rfl, I0⟩
      case round =>
        obtain ⟨i, q, a0, c0, a1, c1, hi, HQ, rfl, rfl, I1⟩ := hrel
        by_cases hlt : i < 3
        · have hlti : (i : Int) < 3 := by omega
          obtain ⟨s, LL, len, hs1, hs2, hs3, hs4, hs5, hs6, hs7, hs8⟩ := HL.out.round i hlt
          rw [← HPP.out, ← HQ.out] at hs8
          rw [← HQ.out] at hs3 hs6
          rw [hs6] at hs7
          have HS6 := hid hs6
          have HS8 := hid hs8
          clear hs6 hs8
          have cG := I1.rG.cell i _ hs1
          have lG := I1.rG.lt
          have HCI := hid (fun wx => ct_one s (l + 1) (f + (q : Int)) wn m LL len wx (by omega) hmm hw8 (by omega) hs3 hs4)
          clear hs1 hs3
          have hw1 : IntKind.i64.wrap (l + 1) = l + 1 := wrap_i64_id _ (by omega) (by omega)
          have hw2 : IntKind.i64.wrap (f + (q : Int)) = f + (q : Int) := wrap_i64_id _ (by omega) (by omega)
          go_wp2_with fail
          refine (HCI.out _).mono ?_
          rintro e wi ⟨la, lc, rfl, sL, gL, hbi⟩
          have I2 := I1.below hbi
          have gB : Hid (∀ g o, la = some ⟨g, o, none⟩ → g ≠ B) := hid (fun g o e => by have := gL g o e (by omega); have := I1.rB.lt; omega)
          clear gL cG lG hbi I1 HCI I0
          go_wp2_with fail
          go_loopw [10, 13] (fun nv kv wr => ∃ (k j : Nat) (a0 : Option Addr) (c0 : Nat) (a1 : Option Addr) (c1 : Nat), k ≤ len ∧ j = q + k ∧ nv = .int .i64 (j : Int) ∧ kv = .int .i64 (k : Int) ∧ LgI w wr B G t e3 (PP.take j) j a0 c0 a1 c1 ∧ Strs wr la LL) (fun _ kv _ => len - (intOf kv).toNat)
          case atStart => exact ⟨0, q, a0, c0, a1, c1, Nat.zero_le _, rfl, rfl, rfl, I2, sL⟩
          case round =>
            clear I2 sL a0 c0 a1 c1
            obtain ⟨k, j, a0, c0, a1, c1, hk, hj, rfl, rfl, I3, sL⟩ := hrel
            have HJ := hid hj
            have hjb : j ≤ 30 := by omega
            have hjN' : k < len → j + 1 ≤ NN := by omega
            clear hj
            by_cases hkl : k < len
            · have hkli : (k : Int) < (len : Int) := by omega
              have hkl2 : ¬ ((len : Int) ≤ (k : Int)) := by omega
              obtain ⟨b1, o1, p, rfl, cL, HPk⟩ := sL.at (k := k) (by omega)
              have hw3 : IntKind.i64.wrap ((j : Int) + 1) = (j : Int) + 1 := wrap_i64_id _ (by omega) (by omega)
              have hw4 : IntKind.i64.wrap ((k : Int) + 1) = (k : Int) + 1 := wrap_i64_id _ (by omega) (by omega)
              have hw5 : IntKind.i64.wrap (2 + (j : Int)) = 2 + (j : Int) := wrap_i64_id _ (by omega) (by omega)
              have hjN : j + 1 ≤ NN := hjN' hkl
              clear hjN'
              have HEQ : Hid (laidW (PP.take j) ++ [(2 + (j : Int), p)] = laidW (PP.take (j + 1))) := hid (by rw [laid_two _ j (by rw [HPP.out]; exact HL.out.tk j (by omega)), HPk.out, HJ.out, HS8.out k hkl])
              have HW1 : Hid (WsOk (laidW (PP.take j))) := hid (by rw [HPP.out]; exact HL.out.wt j)
              have HW2 : Hid (WsOk (laidW (PP.take j) ++ [(2 + (j : Int), p)])) := hid (by rw [HEQ.out, HPP.out]; exact HL.out.wt (j + 1))
              go_upto_region 19 with fail
              go_cut [] from 104 to 121 (fun wx => ∃ (a0 : Option Addr) (c0 : Nat) (a1 : Option Addr) (c1 : Nat), LgI w wx B G t e3 (PP.take (j + 1)) (j + 1) a0 c0 a1 c1 ∧ Strs wx (some ⟨b1, o1, none⟩) LL)
              case first =>
                have HK : Hid (∀ W, Below wr.heap.size wr W → W.cell? ⟨b1, o1 + k, none⟩ = some (.string p)) := fun W hb => (hb.cell (p := ⟨b1, o1 + k, none⟩) (lt_of_cell cL)).trans cL
                clear cL
                refine wp_region_held_drew (S := fun w' => w'.cell? ⟨b1, o1 + k, none⟩ = some (.string p)) (by kernel_rfl) (HK.out _ (Below.refl _ _).drew) (fun hHeld => ?_)
                refine TK (i := 1) (v := .int .i64 (j : Int)) rfl (Or.inl ⟨by rfl, fun w hw => by obtain z0 := hw; go_simp⟩) hHeld ?_
                simp only [PS]
                refine TK (i := 2) (v := .int .i64 (2 + (j : Int))) rfl (Or.inl ⟨by rfl, fun w hw => by obtain z0 := hw; go_simp⟩) hHeld ?_
                simp only [PS]
                refine TK (i := 3) (v := .slice (some ⟨b1, o1, none⟩) len lc) rfl (Or.inl ⟨by rfl, fun w hw => by obtain z0 := hw; go_simp⟩) hHeld ?_
                simp only [PS]
                refine TK (i := 4) (v := .int .i64 (k : Int)) rfl (Or.inl ⟨by rfl, fun w hw => by obtain z0 := hw; go_simp⟩) hHeld ?_
                simp only [PS]
                refine TK (i := 5) (v := .pointer (some ⟨b1, o1 + k, none⟩)) rfl (Or.inl ⟨by rfl, fun w hw => by obtain z0 := hw; go_simp⟩) hHeld ?_
                simp only [PS]
                refine TK (i := 6) (v := .string p) rfl (Or.inl ⟨by rfl, fun w hw => by obtain z0 := hw; go_simp⟩) hHeld ?_
                simp only [PS]
                refine TK (i := 7) (v := .agg #[.bool false, .int .i64 (2 + (j : Int)), .string p]) rfl (Or.inl ⟨by rfl, fun w hw => by obtain z0 := hw; go_simp⟩) hHeld ?_
                simp only [PS]
                refine wpAnyH_ready (rs := [0, 8]) (by kernel_rfl) (by simp) ?_
                refine AllReadyH.cons rfl (fun Kq hKq => ?_) (AllReadyH.cons rfl (fun Kq hKq => ?_) AllReadyH.nil)
                · obtain ⟨u0, e_u0⟩ : ∃ x, x = wr.drew := ⟨_, rfl⟩
                  rw [← e_u0]
                  have hA0 : Below wr.heap.size wr u0 := by rw [e_u0]; exact (Below.refl _ _).drew
                  clear e_u0
                  have b0 := (I3.rB.below hA0).cell 0 _ rfl
                  have b1' := (I3.rB.below hA0).cell 1 _ rfl
                  have bl := (I3.rB.below hA0).lt
                  go_simp
                  clear b0 b1' bl
                  refine hKq.out _ _ (HK.out _ hA0) (fun hHd1 => ?_)
                  clear hKq Kq
                  try simp only [PS]
                  refine wpAnyH_ready (rs := [8]) (by kernel_rfl) (by simp) ?_
                  refine AllReadyH.cons rfl (fun Kq hKq => ?_) AllReadyH.nil
                  go_simp
                  have hb_1 := below_nw u0 (.cells #[.bool false, .int .i64 (2 + (j : Int)), .string p] 35)
                  have rO := row_new u0 #[.bool false, .int .i64 (2 + (j : Int)), .string p] 35
                  obtain ⟨u1, e_u1⟩ : ∃ x, x = u0.alloc (.cells #[.bool false, .int .i64 (2 + (j : Int)), .string p] 35) := ⟨_, rfl⟩
                  obtain ⟨OB, e_OB⟩ : ∃ x, x = u0.heap.size := ⟨_, rfl⟩
                  rw [← e_u1]
                  try rw [← e_OB]
                  rw [← e_u1] at hb_1 rO
                  rw [← e_OB] at rO
                  have hA1 := hA0.trans (hb_1.mono hA0.size)
                  have l_OB : wr.heap.size ≤ OB := by rw [e_OB]; exact hA0.size
                  have E_OB := hid e_OB
                  clear e_u1
                  clear e_OB
                  refine hKq.out _ _ (HK.out _ hA1) (fun hHd2 => ?_)
                  clear hKq Kq
                  try simp only [PS]
                  refine wpAnyH_ready (rs := [9]) (by kernel_rfl) (by simp) ?_
                  refine AllReadyH.cons rfl (fun Kq hKq => ?_) AllReadyH.nil
                  refine step_call (by rfl) 13 #[diskV a0 100 c0 a1 j c1, .slice (some ⟨OB, 0, none⟩) 1 1, .int .i64 1] (by go_simp) (pf_one a0 c0 a1 c1 (laidW (PP.take j)) j (j + 1) (2 + (j : Int), p) OB 1 u1 (I3.dk.below hA1) I3.hq rfl HW1.out HW2.out rO (by omega)) ?_
                  rintro e u2 ⟨x0, y0, x1, y1, rfl, dk1, j1, j2, hb_2⟩
                  refine ⟨_, rfl, ?_⟩
                  rw [HEQ.out] at dk1
                  have hA2 := hA1.trans (hb_2.mono hA1.size)
                  have m1 : ∀ g, blk x0 100 = some g → g ≠ B := fun g hg => by have := j1 g hg; have := I3.rB.lt; have := hA1.size; omega
                  have m2 : ∀ g, blk x1 (j + 1) = some g → g ≠ B := fun g hg => by have := j2 g hg; have := I3.rB.lt; have := hA1.size; omega
                  refine hKq.out _ _ (HK.out _ hA2) (fun hHd3 => ?_)
                  clear hKq Kq
                  try simp only [PS]
                  refine wpAnyH_ready (rs := [10]) (by kernel_rfl) (by simp) ?_
                  refine AllReadyH.cons rfl (fun Kq hKq => ?_) AllReadyH.nil
                  have rB := I3.rB.below hA2
                  have z0 := rB.cell 0 _ rfl
                  have z1 := rB.cell 1 _ rfl
                  have y0' := rB.froz 0 (by simp)
                  have y1' := rB.froz 1 (by simp)
                  have zl := rB.lt
                  go_simp
                  have I4 : LgI w ((u2.setCell ⟨B, 0, none⟩ (.slice x0 100 y0)).setCell ⟨B, 1, none⟩ (.slice x1 (j + 1) y1)) B G t e3 (PP.take (j + 1)) (j + 1) x0 y0 x1 y1 := ⟨((I3.be.trans (hA2.mono I3.be.size)).setCell bB _).setCell bB _, (rB.set 0 (by simp) _).set 1 (by simp) _, (dk1.set (q := j + 1) (by rw [laidW_length, HPP.out]; exact HL.out.tk _ hjN) m1 m2 _).set (q := j + 1) (by rw [laidW_length, HPP.out]; exact HL.out.tk _ hjN) m1 m2 _, by rw [laidW_length, HPP.out]; exact HL.out.tk _ hjN, m1, m2, ((I3.rG.below hA2).other _ (fun e => hGB e.symm) _).other _ (fun e => hGB e.symm) _⟩
                  have sL4 : Strs ((u2.setCell ⟨B, 0, none⟩ (.slice x0 100 y0)).setCell ⟨B, 1, none⟩ (.slice x1 (j + 1) y1)) (some ⟨b1, o1, none⟩) LL := strs_set (strs_set (sL.below hA2) gB.out _) gB.out _
                  obtain ⟨b2, o2, p2, e2, cL4, HP4⟩ := sL4.at (k := k) (by omega)
                  obtain ⟨rfl, rfl⟩ : b1 = b2 ∧ o1 = o2 := by injection e2 with e2; injection e2 with e3 e4; exact ⟨e3, e4⟩
                  obtain rfl : p2 = p := by rw [HP4.out, HPk.out]
                  refine hKq.out _ _ (cL4) (fun hHd4 => ?_)
                  clear hKq Kq
                  try simp only [PS]
                  refine wpAnyH_done (by kernel_rfl) ?_ _
                  go_wp2_with fail
                  go_meet
                  exact ⟨x0, y0, x1, y1, I4, sL4⟩
                · obtain ⟨u0, e_u0⟩ : ∃ x, x = wr.drew := ⟨_, rfl⟩
                  rw [← e_u0]
                  have hA0 : Below wr.heap.size wr u0 := by rw [e_u0]; exact (Below.refl _ _).drew
                  clear e_u0
                  go_simp
                  have hb_1 := below_nw u0 (.cells #[.bool false, .int .i64 (2 + (j : Int)), .string p] 35)
                  have rO := row_new u0 #[.bool false, .int .i64 (2 + (j : Int)), .string p] 35
                  obtain ⟨u1, e_u1⟩ : ∃ x, x = u0.alloc (.cells #[.bool false, .int .i64 (2 + (j : Int)), .string p] 35) := ⟨_, rfl⟩
                  obtain ⟨OB, e_OB⟩ : ∃ x, x = u0.heap.size := ⟨_, rfl⟩
                  rw [← e_u1]
                  try rw [← e_OB]
                  rw [← e_u1] at hb_1 rO
                  rw [← e_OB] at rO
                  have hA1 := hA0.trans (hb_1.mono hA0.size)
                  have l_OB : wr.heap.size ≤ OB := by rw [e_OB]; exact hA0.size
                  have E_OB := hid e_OB
                  clear e_u1
                  clear e_OB
                  refine hKq.out _ _ (HK.out _ hA1) (fun hHd5 => ?_)
                  clear hKq Kq
                  try simp only [PS]
                  refine wpAnyH_ready (rs := [0]) (by kernel_rfl) (by simp) ?_
                  refine AllReadyH.cons rfl (fun Kq hKq => ?_) AllReadyH.nil
                  have b0 := (I3.rB.below hA1).cell 0 _ rfl
                  have b1' := (I3.rB.below hA1).cell 1 _ rfl
                  have bl := (I3.rB.below hA1).lt
                  go_simp
                  clear b0 b1' bl
                  refine hKq.out _ _ (HK.out _ hA1) (fun hHd6 => ?_)
                  clear hKq Kq
                  try simp only [PS]
                  refine wpAnyH_ready (rs := [9]) (by kernel_rfl) (by simp) ?_
                  refine AllReadyH.cons rfl (fun Kq hKq => ?_) AllReadyH.nil
                  refine step_call (by rfl) 13 #[diskV a0 100 c0 a1 j c1, .slice (some ⟨OB, 0, none⟩) 1 1, .int .i64 1] (by go_simp) (pf_one a0 c0 a1 c1 (laidW (PP.take j)) j (j + 1) (2 + (j : Int), p) OB 1 u1 (I3.dk.below hA1) I3.hq rfl HW1.out HW2.out rO (by omega)) ?_
                  rintro e u2 ⟨x0, y0, x1, y1, rfl, dk1, j1, j2, hb_2⟩
                  refine ⟨_, rfl, ?_⟩
                  rw [HEQ.out] at dk1
                  have hA2 := hA1.trans (hb_2.mono hA1.size)
                  have m1 : ∀ g, blk x0 100 = some g → g ≠ B := fun g hg => by have := j1 g hg; have := I3.rB.lt; have := hA1.size; omega
                  have m2 : ∀ g, blk x1 (j + 1) = some g → g ≠ B := fun g hg => by have := j2 g hg; have := I3.rB.lt; have := hA1.size; omega
                  refine hKq.out _ _ (HK.out _ hA2) (fun hHd7 => ?_)
                  clear hKq Kq
                  try simp only [PS]
                  refine wpAnyH_ready (rs := [10]) (by kernel_rfl) (by simp) ?_
                  refine AllReadyH.cons rfl (fun Kq hKq => ?_) AllReadyH.nil
                  have rB := I3.rB.below hA2
                  have z0 := rB.cell 0 _ rfl
                  have z1 := rB.cell 1 _ rfl
                  have y0' := rB.froz 0 (by simp)
                  have y1' := rB.froz 1 (by simp)
                  have zl := rB.lt
                  go_simp
                  have I4 : LgI w ((u2.setCell ⟨B, 0, none⟩ (.slice x0 100 y0)).setCell ⟨B, 1, none⟩ (.slice x1 (j + 1) y1)) B G t e3 (PP.take (j + 1)) (j + 1) x0 y0 x1 y1 := ⟨((I3.be.trans (hA2.mono I3.be.size)).setCell bB _).setCell bB _, (rB.set 0 (by simp) _).set 1 (by simp) _, (dk1.set (q := j + 1) (by rw [laidW_length, HPP.out]; exact HL.out.tk _ hjN) m1 m2 _).set (q := j + 1) (by rw [laidW_length, HPP.out]; exact HL.out.tk _ hjN) m1 m2 _, by rw [laidW_length, HPP.out]; exact HL.out.tk _ hjN, m1, m2, ((I3.rG.below hA2).other _ (fun e => hGB e.symm) _).other _ (fun e => hGB e.symm) _⟩
                  have sL4 : Strs ((u2.setCell ⟨B, 0, none⟩ (.slice x0 100 y0)).setCell ⟨B, 1, none⟩ (.slice x1 (j + 1) y1)) (some ⟨b1, o1, none⟩) LL := strs_set (strs_set (sL.below hA2) gB.out _) gB.out _
                  obtain ⟨b2, o2, p2, e2, cL4, HP4⟩ := sL4.at (k := k) (by omega)
                  obtain ⟨rfl, rfl⟩ : b1 = b2 ∧ o1 = o2 := by injection e2 with e2; injection e2 with e3 e4; exact ⟨e3, e4⟩
                  obtain rfl : p2 = p := by rw [HP4.out, HPk.out]
                  refine hKq.out _ _ (cL4) (fun hHd8 => ?_)
                  clear hKq Kq
                  try simp only [PS]
                  refine wpAnyH_done (by kernel_rfl) ?_ _
                  go_wp2_with fail
                  go_meet
                  exact ⟨x0, y0, x1, y1, I4, sL4⟩
              case rest =>
                clear I3 sL a0 c0 a1 c1 cL
                obtain ⟨a0, c0, a1, c1, I4, sL4⟩ := hcut
                go_wp2_with fail
                go_roundw
                case rel => exact ⟨k + 1, j + 1, a0, c0, a1, c1, by omega, by have := HJ.out; omega, by simp, by simp, I4, sL4⟩
                case measure => simp [intOf]; omega
            · have hke : k = len := by omega
              subst hke
              have hkn : ¬ ((k : Int) < (k : Int)) := by omega
              have hw4 : IntKind.i64.wrap ((i : Int) + 1) = (i : Int) + 1 := wrap_i64_id _ (by omega) (by omega)
              go_wp2_with fail
              go_roundw
              case measure => simp [intOf]; omega
              case rel =>
                exact ⟨i + 1, j, a0, c0, a1, c1, by omega, hid (by rw [HS6.out]; exact HJ.out), rfl, by simp, I3⟩
        · have hi3 : i = 3 := by omega
          subst hi3
          have hqN : q = NN := by rw [HQ.out, hNN]; rfl
          subst hqN
          have hlti : ¬ ((3 : Int) < 3) := by omega
          have I5 : LgI w wr B G t e3 PP q a0 c0 a1 c1 := by have := I1; rwa [List.take_of_length_le (by rw [HPP.out, HL.out.len]; exact Nat.le_refl _)] at this
          clear I1
          obtain ⟨be0, rB, dk, hqN, -, -, rG⟩ := I5
          obtain ⟨pO, pP, pX, pB, Z, ZR, PZ, F⟩ := lg_facts HL.out HE3.out H300.out HPP.out
          have HSC : Hid (∀ (a : Option Addr) (c : Nat) (a' : Option Addr) (c' : Nat) (ws : List (Int × ByteArray)) (q' size : Nat) (first : Int) (es : List ByteArray) (k : Nat) (U V : Int) (wx : World), Below w.heap.size w wx → LgD wx a a' ws → ws.length = q' → WsOk ws → size ≤ 98 → 0 ≤ first ∧ first ≤ 1000000001 → SC ws first wn size l = (es, U, V) → es.length = k → Calls Tryd.prog 14 #[diskV a 100 c a' q' c', .int .i64 2, .int .i64 (size : Int), .int .i64 first, .int .i64 l, .int .i64 (wn : Int)] wx fun e w' => ∃ ax cx, e = .returned (.agg #[.slice ax k cx, .int .i64 U, .int .i64 V]) ∧ Strs w' ax es ∧ (∀ g o, ax = some ⟨g, o, none⟩ → k ≠ 0 → wx.heap.size ≤ g) ∧ Below wx.heap.size wx w') := fun a c a' c' ws q' size first es k U V wx hb h1 h2 h3 h4 h5 h6 h7 => sc_one a c a' c' ws q' size first l wn es k U V wx h1 h2 h3 hw8 h4 h5 h6 h7 ty gv (HG.out wx hb).1 (HG.out wx hb).2.1 (HG.out wx hb).2.2
          have hw10 := F.k0
          have hw11 := F.k1
          have hw12 := F.k2
          have hw13 := F.k3
          have hw14 := F.k4
          have hw15 := F.k5
          have hw16 := F.k6
          have hw17 := F.k7
          have hw18 := F.k8
          have hw19 := F.k9
          have hNNi := F.sm
          have FF := hid F
          have hz3 := F.nn
          clear HL HPP HKN HN3 HL3 hes HE3 F hNN
          have rGs : Hid (Strs wr (some ⟨G, 0, none⟩) [t, ByteArray.empty, e3]) := hid (show Row wr G (([t, ByteArray.empty, e3] : List ByteArray).map Value.string) from rG).strs
          have rGt : Hid (Strs wr (some ⟨G, 0, none⟩) [t, ByteArray.empty]) := hid (.inr ⟨G, 0, rfl, rG.lt, fun i hi => by (have hi2 : i < 2 := hi; have : i = 0 ∨ i = 1 := by omega); rcases this with rfl | rfl <;> first | exact rG.cell 0 _ rfl | exact rG.cell 1 _ rfl⟩)
          clear rG
          have bL := Below.refl wr.heap.size wr
          have b0 := rB.cell 0 _ rfl
          have b1 := rB.cell 1 _ rfl
          have bl := rB.lt
          go_wp2_with fail
          clear b0 b1 bl
          refine (HSC.out a0 c0 a1 c1 (laidW PP) q 90 f [t, ByteArray.empty, e3] 3 (q : Int) (l + 1) _ be0 dk hqN FF.out.w0 (by decide) FF.out.ff FF.out.sx rfl).mono ?_
          rintro e t1 ⟨a14, c14, rfl, s14, -, hbt⟩
          have rB := rB.below hbt
          have dk := dk.below hbt
          have bL := bL.trans (hbt.mono bL.size)
          have be0 := be0.trans (hbt.mono be0.size)
          clear hbt
          have rX14 := row_new t1 #[.slice a14 3 c14, .int .i64 (q : Int), .int .i64 (l + 1)] 38
          have hbn := below_nw t1 (.cells #[.slice a14 3 c14, .int .i64 (q : Int), .int .i64 (l + 1)] 38)
          obtain ⟨v14, e_v14⟩ : ∃ x, x = t1.alloc (.cells #[.slice a14 3 c14, .int .i64 (q : Int), .int .i64 (l + 1)] 38) := ⟨_, rfl⟩
          obtain ⟨X14, e_X14⟩ : ∃ x, x = t1.heap.size := ⟨_, rfl⟩
          rw [← e_v14] at hbn rX14
          rw [← e_X14] at rX14
          have rB := rB.below hbn
          have dk := dk.below hbn
          have s14 := s14.below hbn
          have bL := bL.trans (hbn.mono bL.size)
          have be0 := be0.trans (hbn.mono be0.size)
          clear hbn
          have x0 := rX14.cell 0 _ rfl
          have x1 := rX14.cell 1 _ rfl
          have x2 := rX14.cell 2 _ rfl
          have xl := rX14.lt
          go_wp2_with fail
          rw [← e_v14, ← e_X14]
          clear e_v14
          clear e_X14
          refine (wt_k a14 (some ⟨G, 0, none⟩) [t, ByteArray.empty, e3] 3 c14 3 _ s14 (rGs.out.below bL) rfl (by omega)).mono ?_
          rintro e t2 ⟨rfl, hbt⟩
          clear x0 x1 x2 xl
          have rB := rB.below hbt
          have dk := dk.below hbt
          have rX14 := rX14.below hbt
          have bL := bL.trans (hbt.mono bL.size)
          have be0 := be0.trans (hbt.mono be0.size)
          clear hbt
          have x0 := rX14.cell 0 _ rfl
          have x1 := rX14.cell 1 _ rfl
          have x2 := rX14.cell 2 _ rfl
          have xl := rX14.lt
          go_wp2_with fail
          refine (FF.out.pg _).mono ?_
          rintro e t3 ⟨rfl, hbt⟩
          clear x0 x1 x2 xl
          clear rX14 s14
          have rB := rB.below hbt
          have dk := dk.below hbt
          have bL := bL.trans (hbt.mono bL.size)
          have be0 := be0.trans (hbt.mono be0.size)
          clear hbt
          go_wp2_with fail
          refine (FF.out.ph _).mono ?_
          rintro e t4 ⟨rfl, hbt⟩
          have rB := rB.below hbt
          have dk := dk.below hbt
          have bL := bL.trans (hbt.mono bL.size)
          have be0 := be0.trans (hbt.mono be0.size)
          clear hbt
          go_wp2_with fail
          refine (FF.out.co _).mono ?_
          rintro e t5 ⟨a15, c15, rfl, s15, -, hbt⟩
          have rB := rB.below hbt
          have dk := dk.below hbt
          have bL := bL.trans (hbt.mono bL.size)
          have be0 := be0.trans (hbt.mono be0.size)
          clear hbt
          obtain ⟨b15, o15, p15, rfl, cL, HPk⟩ := s15.at (k := 0) (by simp)
          have e15 : pO = p15 := HPk.out.symm
          subst e15
          clear HPk s15
          go_upto_region 25 with fail
          have HWq := hid hqN
          clear hqN
          go_cut [16] from 164 to 176 (fun v7 wx => ∃ (X : Nat) (ax : Option Addr) (cx : Nat), v7 = .pointer (some ⟨X, 0, none⟩) ∧ Row wx X [.slice ax 3 cx, .int .i64 (q : Int), .int .i64 (l + 1)] ∧ Strs wx ax [t, ByteArray.empty, e3] ∧ Below t5.heap.size t5 wx)
          case first =>
            have HK : Hid (∀ W, Below t5.heap.size t5 W → W.cell? ⟨B, 0, none⟩ = some (.slice a0 100 c0) ∧ W.cell? ⟨B, 1, none⟩ = some (.slice a1 q c1) ∧ W.cell? ⟨b15, o15, none⟩ = some (.string pO)) := fun W hb => ⟨(rB.below hb).cell 0 _ rfl, (rB.below hb).cell 1 _ rfl, (hb.cell (p := ⟨b15, o15, none⟩) (lt_of_cell cL)).trans cL⟩
            have HDK := hid dk
            have HWB := hid be0
            refine wp_region_held_drew (S := fun w' => w'.cell? ⟨B, 0, none⟩ = some (.slice a0 100 c0) ∧ w'.cell? ⟨B, 1, none⟩ = some (.slice a1 q c1) ∧ w'.cell? ⟨b15, o15, none⟩ = some (.string pO)) (by kernel_rfl) (HK.out _ (Below.refl _ _).drew) (fun hHeld => ?_)
            refine TK (i := 0) (v := .agg #[.slice a0 100 c0, .slice a1 q c1]) rfl (Or.inl ⟨by rfl, fun w hw => by obtain ⟨z0, z1, z2⟩ := hw; go_simp⟩) hHeld ?_
            simp only [PS]
            refine TK (i := 1) (v := .int .i64 (q : Int)) rfl (Or.inl ⟨by rfl, fun w hw => by obtain ⟨z0, z1, z2⟩ := hw; go_simp⟩) hHeld ?_
            simp only [PS]
            refine TK (i := 2) (v := .int .i64 (2 + (q : Int))) rfl (Or.inl ⟨by rfl, fun w hw => by obtain ⟨z0, z1, z2⟩ := hw; go_simp⟩) hHeld ?_
            simp only [PS]
            refine TK (i := 3) (v := .slice (some ⟨b15, o15, none⟩) 1 c15) rfl (Or.inl ⟨by rfl, fun w hw => by obtain ⟨z0, z1, z2⟩ := hw; go_simp⟩) hHeld ?_
            simp only [PS]
            refine TK (i := 4) (v := .pointer (some ⟨b15, o15, none⟩)) rfl (Or.inl ⟨by rfl, fun w hw => by obtain ⟨z0, z1, z2⟩ := hw; go_simp⟩) hHeld ?_
            simp only [PS]
            refine TK (i := 5) (v := .string pO) rfl (Or.inl ⟨by rfl, fun w hw => by obtain ⟨z0, z1, z2⟩ := hw; go_simp⟩) hHeld ?_
            simp only [PS]
            refine TK (i := 6) (v := .agg #[.bool false, .int .i64 (2 + (q : Int)), .string pO]) rfl (Or.inl ⟨by rfl, fun w hw => by obtain ⟨z0, z1, z2⟩ := hw; go_simp⟩) hHeld ?_
            simp only [PS]
            refine TK (i := 9) (v := .int .i64 f) rfl (Or.inl ⟨by rfl, fun w hw => by obtain ⟨z0, z1, z2⟩ := hw; go_simp⟩) hHeld ?_
            simp only [PS]
            refine TK (i := 10) (v := .int .i64 l) rfl (Or.inl ⟨by rfl, fun w hw => by obtain ⟨z0, z1, z2⟩ := hw; go_simp⟩) hHeld ?_
            simp only [PS]
            refine TK (i := 11) (v := .int .i64 (wn : Int)) rfl (Or.inl ⟨by rfl, fun w hw => by obtain ⟨z0, z1, z2⟩ := hw; go_simp⟩) hHeld ?_
            simp only [PS]
            refine wpAnyH_ready (rs := [7, 13]) (by kernel_rfl) (by simp) ?_
            refine AllReadyH.cons rfl (fun Kq hKq => ?_) (AllReadyH.cons rfl (fun Kq hKq => ?_) AllReadyH.nil)
            · obtain ⟨u0, e_u0⟩ : ∃ x, x = t5.drew := ⟨_, rfl⟩
              rw [← e_u0]
              have hA0 : Below t5.heap.size t5 u0 := by rw [e_u0]; exact (Below.refl _ _).drew
              clear e_u0
              go_simp
              have hb_1 := below_nw u0 (.cells #[.bool false, .int .i64 (2 + (q : Int)), .string pO] 35)
              have rO := row_new u0 #[.bool false, .int .i64 (2 + (q : Int)), .string pO] 35
              obtain ⟨u1, e_u1⟩ : ∃ x, x = u0.alloc (.cells #[.bool false, .int .i64 (2 + (q : Int)), .string pO] 35) := ⟨_, rfl⟩
              obtain ⟨OB, e_OB⟩ : ∃ x, x = u0.heap.size := ⟨_, rfl⟩
              rw [← e_u1]
              try rw [← e_OB]
              rw [← e_u1] at hb_1 rO
              rw [← e_OB] at rO
              have hA1 := hA0.trans (hb_1.mono hA0.size)
              have l_OB : t5.heap.size ≤ OB := by rw [e_OB]; exact hA0.size
              have E_OB := hid e_OB
              clear e_u1
              clear e_OB
              refine hKq.out _ _ (HK.out _ hA1) (fun hHd1 => ?_)
              clear hKq Kq
              try simp only [PS]
              refine wpAnyH_ready (rs := [8, 13]) (by kernel_rfl) (by simp) ?_
              refine AllReadyH.cons rfl (fun Kq hKq => ?_) (AllReadyH.cons rfl (fun Kq hKq => ?_) AllReadyH.nil)
              · refine step_call (by rfl) 13 #[diskV a0 100 c0 a1 q c1, .slice (some ⟨OB, 0, none⟩) 1 1, .int .i64 1] (by go_simp) (pf_one a0 c0 a1 c1 (laidW PP) q (q + 1) (2 + (q : Int), pO) OB 1 u1 (HDK.out.below hA1) HWq.out rfl FF.out.w0 FF.out.wy rO (by decide)) ?_
                rintro e u2 ⟨x0, y0, x1, y1, rfl, dk1, j1, j2, hb_2⟩
                refine ⟨_, rfl, ?_⟩
                have hA2 := hA1.trans (hb_2.mono hA1.size)
                refine hKq.out _ _ (HK.out _ hA2) (fun hHd2 => ?_)
                clear hKq Kq
                try simp only [PS]
                refine wpAnyH_ready (rs := [12, 13]) (by kernel_rfl) (by simp) ?_
                refine AllReadyH.cons rfl (fun Kq hKq => ?_) (AllReadyH.cons rfl (fun Kq hKq => ?_) AllReadyH.nil)
                · refine step_call (by rfl) 14 #[diskV x0 100 y0 x1 (q + 1) y1, .int .i64 2, .int .i64 90, .int .i64 f, .int .i64 l, .int .i64 (wn : Int)] (by go_simp) (HSC.out x0 y0 x1 y1 _ (q + 1) 90 f [t, ByteArray.empty, e3] 3 (q : Int) (l + 1) u2 (HWB.out.trans (hA2.mono HWB.out.size)) dk1 (by rw [List.length_append, HWq.out]; exact rfl) FF.out.wy (by decide) FF.out.ff FF.out.sy rfl) ?_
                  rintro e u3 ⟨ax, cx, rfl, sx, gx, hb_3⟩
                  refine ⟨_, rfl, ?_⟩
                  have hA3 := hA2.trans (hb_3.mono hA2.size)
                  refine hKq.out _ _ (HK.out _ hA3) (fun hHd3 => ?_)
                  clear hKq Kq
                  try simp only [PS]
                  refine wpAnyH_ready (rs := [13]) (by kernel_rfl) (by simp) ?_
                  refine AllReadyH.cons rfl (fun Kq hKq => ?_) AllReadyH.nil
                  have gX0 : ∀ g o, ax = some ⟨g, o, none⟩ → g < u3.heap.size := fun g o e => strs_lt sx (by simp) e
                  go_simp
                  have hb_4 := below_nw u3 (.cells #[.slice none 0 0, .int .i64 0, .int .i64 0] 38)
                  have rX := row_new u3 #[.slice none 0 0, .int .i64 0, .int .i64 0] 38
                  obtain ⟨u4, e_u4⟩ : ∃ x, x = u3.alloc (.cells #[.slice none 0 0, .int .i64 0, .int .i64 0] 38) := ⟨_, rfl⟩
                  obtain ⟨XB, e_XB⟩ : ∃ x, x = u3.heap.size := ⟨_, rfl⟩
                  rw [← e_u4]
                  try rw [← e_XB]
                  rw [← e_u4] at hb_4 rX
                  rw [← e_XB] at rX
                  have hA4 := hA3.trans (hb_4.mono hA3.size)
                  have l_XB : t5.heap.size ≤ XB := by rw [e_XB]; exact hA3.size
                  have sx := sx.below hb_4
                  have E_XB := hid e_XB
                  clear e_u4
                  clear e_XB
                  have gX : ∀ g o, ax = some ⟨g, o, none⟩ → g ≠ XB := fun g o e => by have := gX0 g o e; have := E_XB.out; omega
                  refine hKq.out _ _ (HK.out _ hA4) (fun hHd4 => ?_)
                  clear hKq Kq
                  try simp only [PS]
                  refine wpAnyH_ready (rs := [14]) (by kernel_rfl) (by simp) ?_
                  refine AllReadyH.cons rfl (fun Kq hKq => ?_) AllReadyH.nil
                  have z0 := rX.cell 0 _ rfl
                  have z1 := rX.cell 1 _ rfl
                  have z2 := rX.cell 2 _ rfl
                  have zf0 := rX.froz 0 (by simp)
                  have zf1 := rX.froz 1 (by simp)
                  have zf2 := rX.froz 2 (by simp)
                  have zl := rX.lt
                  go_simp
                  have hS : Below t5.heap.size t5 (((u4.setCell ⟨XB, 0, none⟩ (.slice ax 3 cx)).setCell ⟨XB, 1, none⟩ (.int .i64 (q : Int))).setCell ⟨XB, 2, none⟩ (.int .i64 (l + 1))) := (((hA4.setCell l_XB _).setCell l_XB _).setCell l_XB _)
                  have rX' : Row (((u4.setCell ⟨XB, 0, none⟩ (.slice ax 3 cx)).setCell ⟨XB, 1, none⟩ (.int .i64 (q : Int))).setCell ⟨XB, 2, none⟩ (.int .i64 (l + 1))) XB [.slice ax 3 cx, .int .i64 (q : Int), .int .i64 (l + 1)] := (((rX.set 0 (by simp) _).set 1 (by simp) _).set 2 (by simp) _)
                  have sx' : Strs (((u4.setCell ⟨XB, 0, none⟩ (.slice ax 3 cx)).setCell ⟨XB, 1, none⟩ (.int .i64 (q : Int))).setCell ⟨XB, 2, none⟩ (.int .i64 (l + 1))) ax [t, ByteArray.empty, e3] := (strs_set (strs_set (strs_set sx gX _) gX _) gX _)
                  refine hKq.out _ _ (HK.out _ hS) (fun hHd5 => ?_)
                  clear hKq Kq
                  try simp only [PS]
                  refine wpAnyH_done (by kernel_rfl) ?_ _
                  go_wp2_with fail
                  go_meet
                  exact ⟨XB, ax, cx, rfl, rX', sx', hS⟩
                · go_simp
                  have hb_3 := below_nw u2 (.cells #[.slice none 0 0, .int .i64 0, .int .i64 0] 38)
                  have rX := row_new u2 #[.slice none 0 0, .int .i64 0, .int .i64 0] 38
                  obtain ⟨u3, e_u3⟩ : ∃ x, x = u2.alloc (.cells #[.slice none 0 0, .int .i64 0, .int .i64 0] 38) := ⟨_, rfl⟩
                  obtain ⟨XB, e_XB⟩ : ∃ x, x = u2.heap.size := ⟨_, rfl⟩
                  rw [← e_u3]
                  try rw [← e_XB]
                  rw [← e_u3] at hb_3 rX
                  rw [← e_XB] at rX
                  have hA3 := hA2.trans (hb_3.mono hA2.size)
                  have l_XB : t5.heap.size ≤ XB := by rw [e_XB]; exact hA2.size
                  have dk1 := dk1.below hb_3
                  have E_XB := hid e_XB
                  clear e_u3
                  clear e_XB
                  refine hKq.out _ _ (HK.out _ hA3) (fun hHd6 => ?_)
                  clear hKq Kq
                  try simp only [PS]
                  refine wpAnyH_ready (rs := [12]) (by kernel_rfl) (by simp) ?_
                  refine AllReadyH.cons rfl (fun Kq hKq => ?_) AllReadyH.nil
                  have hXl := rX.lt
                  refine step_call (by rfl) 14 #[diskV x0 100 y0 x1 (q + 1) y1, .int .i64 2, .int .i64 90, .int .i64 f, .int .i64 l, .int .i64 (wn : Int)] (by go_simp) (HSC.out x0 y0 x1 y1 _ (q + 1) 90 f [t, ByteArray.empty, e3] 3 (q : Int) (l + 1) u3 (HWB.out.trans (hA3.mono HWB.out.size)) dk1 (by rw [List.length_append, HWq.out]; exact rfl) FF.out.wy (by decide) FF.out.ff FF.out.sy rfl) ?_
                  rintro e u4 ⟨ax, cx, rfl, sx, gx, hb_4⟩
                  refine ⟨_, rfl, ?_⟩
                  have hA4 := hA3.trans (hb_4.mono hA3.size)
                  have rX := rX.below hb_4
                  have gX : ∀ g o, ax = some ⟨g, o, none⟩ → g ≠ XB := fun g o e => by have := gx g o e (by omega); omega
                  refine hKq.out _ _ (HK.out _ hA4) (fun hHd7 => ?_)
                  clear hKq Kq
                  try simp only [PS]
                  refine wpAnyH_ready (rs := [14]) (by kernel_rfl) (by simp) ?_
                  refine AllReadyH.cons rfl (fun Kq hKq => ?_) AllReadyH.nil
                  have z0 := rX.cell 0 _ rfl
                  have z1 := rX.cell 1 _ rfl
                  have z2 := rX.cell 2 _ rfl
                  have zf0 := rX.froz 0 (by simp)
                  have zf1 := rX.froz 1 (by simp)
                  have zf2 := rX.froz 2 (by simp)
                  have zl := rX.lt
                  go_simp
                  have hS : Below t5.heap.size t5 (((u4.setCell ⟨XB, 0, none⟩ (.slice ax 3 cx)).setCell ⟨XB, 1, none⟩ (.int .i64 (q : Int))).setCell ⟨XB, 2, none⟩ (.int .i64 (l + 1))) := (((hA4.setCell l_XB _).setCell l_XB _).setCell l_XB _)
                  have rX' : Row (((u4.setCell ⟨XB, 0, none⟩ (.slice ax 3 cx)).setCell ⟨XB, 1, none⟩ (.int .i64 (q : Int))).setCell ⟨XB, 2, none⟩ (.int .i64 (l + 1))) XB [.slice ax 3 cx, .int .i64 (q : Int), .int .i64 (l + 1)] := (((rX.set 0 (by simp) _).set 1 (by simp) _).set 2 (by simp) _)
                  have sx' : Strs (((u4.setCell ⟨XB, 0, none⟩ (.slice ax 3 cx)).setCell ⟨XB, 1, none⟩ (.int .i64 (q : Int))).setCell ⟨XB, 2, none⟩ (.int .i64 (l + 1))) ax [t, ByteArray.empty, e3] := (strs_set (strs_set (strs_set sx gX _) gX _) gX _)
                  refine hKq.out _ _ (HK.out _ hS) (fun hHd8 => ?_)
                  clear hKq Kq
                  try simp only [PS]
                  refine wpAnyH_done (by kernel_rfl) ?_ _
                  go_wp2_with fail
                  go_meet
                  exact ⟨XB, ax, cx, rfl, rX', sx', hS⟩
              · go_simp
                have hb_2 := below_nw u1 (.cells #[.slice none 0 0, .int .i64 0, .int .i64 0] 38)
                have rX := row_new u1 #[.slice none 0 0, .int .i64 0, .int .i64 0] 38
                obtain ⟨u2, e_u2⟩ : ∃ x, x = u1.alloc (.cells #[.slice none 0 0, .int .i64 0, .int .i64 0] 38) := ⟨_, rfl⟩
                obtain ⟨XB, e_XB⟩ : ∃ x, x = u1.heap.size := ⟨_, rfl⟩
                rw [← e_u2]
                try rw [← e_XB]
                rw [← e_u2] at hb_2 rX
                rw [← e_XB] at rX
                have hA2 := hA1.trans (hb_2.mono hA1.size)
                have l_XB : t5.heap.size ≤ XB := by rw [e_XB]; exact hA1.size
                have rO := rO.below hb_2
                have E_XB := hid e_XB
                clear e_u2
                clear e_XB
                refine hKq.out _ _ (HK.out _ hA2) (fun hHd9 => ?_)
                clear hKq Kq
                try simp only [PS]
                refine wpAnyH_ready (rs := [8]) (by kernel_rfl) (by simp) ?_
                refine AllReadyH.cons rfl (fun Kq hKq => ?_) AllReadyH.nil
                refine step_call (by rfl) 13 #[diskV a0 100 c0 a1 q c1, .slice (some ⟨OB, 0, none⟩) 1 1, .int .i64 1] (by go_simp) (pf_one a0 c0 a1 c1 (laidW PP) q (q + 1) (2 + (q : Int), pO) OB 1 u2 (HDK.out.below hA2) HWq.out rfl FF.out.w0 FF.out.wy rO (by decide)) ?_
                rintro e u3 ⟨x0, y0, x1, y1, rfl, dk1, j1, j2, hb_3⟩
                refine ⟨_, rfl, ?_⟩
                have hA3 := hA2.trans (hb_3.mono hA2.size)
                have rX := rX.below hb_3
                refine hKq.out _ _ (HK.out _ hA3) (fun hHd10 => ?_)
                clear hKq Kq
                try simp only [PS]
                refine wpAnyH_ready (rs := [12]) (by kernel_rfl) (by simp) ?_
                refine AllReadyH.cons rfl (fun Kq hKq => ?_) AllReadyH.nil
                have hXl := rX.lt
                refine step_call (by rfl) 14 #[diskV x0 100 y0 x1 (q + 1) y1, .int .i64 2, .int .i64 90, .int .i64 f, .int .i64 l, .int .i64 (wn : Int)] (by go_simp) (HSC.out x0 y0 x1 y1 _ (q + 1) 90 f [t, ByteArray.empty, e3] 3 (q : Int) (l + 1) u3 (HWB.out.trans (hA3.mono HWB.out.size)) dk1 (by rw [List.length_append, HWq.out]; exact rfl) FF.out.wy (by decide) FF.out.ff FF.out.sy rfl) ?_
                rintro e u4 ⟨ax, cx, rfl, sx, gx, hb_4⟩
                refine ⟨_, rfl, ?_⟩
                have hA4 := hA3.trans (hb_4.mono hA3.size)
                have rX := rX.below hb_4
                have gX : ∀ g o, ax = some ⟨g, o, none⟩ → g ≠ XB := fun g o e => by have := gx g o e (by omega); omega
                refine hKq.out _ _ (HK.out _ hA4) (fun hHd11 => ?_)
                clear hKq Kq
                try simp only [PS]
                refine wpAnyH_ready (rs := [14]) (by kernel_rfl) (by simp) ?_
                refine AllReadyH.cons rfl (fun Kq hKq => ?_) AllReadyH.nil
                have z0 := rX.cell 0 _ rfl
                have z1 := rX.cell 1 _ rfl
                have z2 := rX.cell 2 _ rfl
                have zf0 := rX.froz 0 (by simp)
                have zf1 := rX.froz 1 (by simp)
                have zf2 := rX.froz 2 (by simp)
                have zl := rX.lt
                go_simp
                have hS : Below t5.heap.size t5 (((u4.setCell ⟨XB, 0, none⟩ (.slice ax 3 cx)).setCell ⟨XB, 1, none⟩ (.int .i64 (q : Int))).setCell ⟨XB, 2, none⟩ (.int .i64 (l + 1))) := (((hA4.setCell l_XB _).setCell l_XB _).setCell l_XB _)
                have rX' : Row (((u4.setCell ⟨XB, 0, none⟩ (.slice ax 3 cx)).setCell ⟨XB, 1, none⟩ (.int .i64 (q : Int))).setCell ⟨XB, 2, none⟩ (.int .i64 (l + 1))) XB [.slice ax 3 cx, .int .i64 (q : Int), .int .i64 (l + 1)] := (((rX.set 0 (by simp) _).set 1 (by simp) _).set 2 (by simp) _)
                have sx' : Strs (((u4.setCell ⟨XB, 0, none⟩ (.slice ax 3 cx)).setCell ⟨XB, 1, none⟩ (.int .i64 (q : Int))).setCell ⟨XB, 2, none⟩ (.int .i64 (l + 1))) ax [t, ByteArray.empty, e3] := (strs_set (strs_set (strs_set sx gX _) gX _) gX _)
                refine hKq.out _ _ (HK.out _ hS) (fun hHd12 => ?_)
                clear hKq Kq
                try simp only [PS]
                refine wpAnyH_done (by kernel_rfl) ?_ _
                go_wp2_with fail
                go_meet
                exact ⟨XB, ax, cx, rfl, rX', sx', hS⟩
            · obtain ⟨u0, e_u0⟩ : ∃ x, x = t5.drew := ⟨_, rfl⟩
              rw [← e_u0]
              have hA0 : Below t5.heap.size t5 u0 := by rw [e_u0]; exact (Below.refl _ _).drew
              clear e_u0
              go_simp
              have hb_1 := below_nw u0 (.cells #[.slice none 0 0, .int .i64 0, .int .i64 0] 38)
              have rX := row_new u0 #[.slice none 0 0, .int .i64 0, .int .i64 0] 38
              obtain ⟨u1, e_u1⟩ : ∃ x, x = u0.alloc (.cells #[.slice none 0 0, .int .i64 0, .int .i64 0] 38) := ⟨_, rfl⟩
              obtain ⟨XB, e_XB⟩ : ∃ x, x = u0.heap.size := ⟨_, rfl⟩
              rw [← e_u1]
              try rw [← e_XB]
              rw [← e_u1] at hb_1 rX
              rw [← e_XB] at rX
              have hA1 := hA0.trans (hb_1.mono hA0.size)
              have l_XB : t5.heap.size ≤ XB := by rw [e_XB]; exact hA0.size
              have E_XB := hid e_XB
              clear e_u1
              clear e_XB
              refine hKq.out _ _ (HK.out _ hA1) (fun hHd13 => ?_)
              clear hKq Kq
              try simp only [PS]
              refine wpAnyH_ready (rs := [7]) (by kernel_rfl) (by simp) ?_
              refine AllReadyH.cons rfl (fun Kq hKq => ?_) AllReadyH.nil
              go_simp
              have hb_2 := below_nw u1 (.cells #[.bool false, .int .i64 (2 + (q : Int)), .string pO] 35)
              have rO := row_new u1 #[.bool false, .int .i64 (2 + (q : Int)), .string pO] 35
              obtain ⟨u2, e_u2⟩ : ∃ x, x = u1.alloc (.cells #[.bool false, .int .i64 (2 + (q : Int)), .string pO] 35) := ⟨_, rfl⟩
              obtain ⟨OB, e_OB⟩ : ∃ x, x = u1.heap.size := ⟨_, rfl⟩
              rw [← e_u2]
              try rw [← e_OB]
              rw [← e_u2] at hb_2 rO
              rw [← e_OB] at rO
              have hA2 := hA1.trans (hb_2.mono hA1.size)
              have l_OB : t5.heap.size ≤ OB := by rw [e_OB]; exact hA1.size
              have rX := rX.below hb_2
              have E_OB := hid e_OB
              clear e_u2
              clear e_OB
              refine hKq.out _ _ (HK.out _ hA2) (fun hHd14 => ?_)
              clear hKq Kq
              try simp only [PS]
              refine wpAnyH_ready (rs := [8]) (by kernel_rfl) (by simp) ?_
              refine AllReadyH.cons rfl (fun Kq hKq => ?_) AllReadyH.nil
              refine step_call (by rfl) 13 #[diskV a0 100 c0 a1 q c1, .slice (some ⟨OB, 0, none⟩) 1 1, .int .i64 1] (by go_simp) (pf_one a0 c0 a1 c1 (laidW PP) q (q + 1) (2 + (q : Int), pO) OB 1 u2 (HDK.out.below hA2) HWq.out rfl FF.out.w0 FF.out.wy rO (by decide)) ?_
              rintro e u3 ⟨x0, y0, x1, y1, rfl, dk1, j1, j2, hb_3⟩
              refine ⟨_, rfl, ?_⟩
              have hA3 := hA2.trans (hb_3.mono hA2.size)
              have rX := rX.below hb_3
              refine hKq.out _ _ (HK.out _ hA3) (fun hHd15 => ?_)
              clear hKq Kq
              try simp only [PS]
              refine wpAnyH_ready (rs := [12]) (by kernel_rfl) (by simp) ?_
              refine AllReadyH.cons rfl (fun Kq hKq => ?_) AllReadyH.nil
              have hXl := rX.lt
              refine step_call (by rfl) 14 #[diskV x0 100 y0 x1 (q + 1) y1, .int .i64 2, .int .i64 90, .int .i64 f, .int .i64 l, .int .i64 (wn : Int)] (by go_simp) (HSC.out x0 y0 x1 y1 _ (q + 1) 90 f [t, ByteArray.empty, e3] 3 (q : Int) (l + 1) u3 (HWB.out.trans (hA3.mono HWB.out.size)) dk1 (by rw [List.length_append, HWq.out]; exact rfl) FF.out.wy (by decide) FF.out.ff FF.out.sy rfl) ?_
              rintro e u4 ⟨ax, cx, rfl, sx, gx, hb_4⟩
              refine ⟨_, rfl, ?_⟩
              have hA4 := hA3.trans (hb_4.mono hA3.size)
              have rX := rX.below hb_4
              have gX : ∀ g o, ax = some ⟨g, o, none⟩ → g ≠ XB := fun g o e => by have := gx g o e (by omega); omega
              refine hKq.out _ _ (HK.out _ hA4) (fun hHd16 => ?_)
              clear hKq Kq
              try simp only [PS]
              refine wpAnyH_ready (rs := [14]) (by kernel_rfl) (by simp) ?_
              refine AllReadyH.cons rfl (fun Kq hKq => ?_) AllReadyH.nil
              have z0 := rX.cell 0 _ rfl
              have z1 := rX.cell 1 _ rfl
              have z2 := rX.cell 2 _ rfl
              have zf0 := rX.froz 0 (by simp)
              have zf1 := rX.froz 1 (by simp)
              have zf2 := rX.froz 2 (by simp)
              have zl := rX.lt
              go_simp
              have hS : Below t5.heap.size t5 (((u4.setCell ⟨XB, 0, none⟩ (.slice ax 3 cx)).setCell ⟨XB, 1, none⟩ (.int .i64 (q : Int))).setCell ⟨XB, 2, none⟩ (.int .i64 (l + 1))) := (((hA4.setCell l_XB _).setCell l_XB _).setCell l_XB _)
              have rX' : Row (((u4.setCell ⟨XB, 0, none⟩ (.slice ax 3 cx)).setCell ⟨XB, 1, none⟩ (.int .i64 (q : Int))).setCell ⟨XB, 2, none⟩ (.int .i64 (l + 1))) XB [.slice ax 3 cx, .int .i64 (q : Int), .int .i64 (l + 1)] := (((rX.set 0 (by simp) _).set 1 (by simp) _).set 2 (by simp) _)
              have sx' : Strs (((u4.setCell ⟨XB, 0, none⟩ (.slice ax 3 cx)).setCell ⟨XB, 1, none⟩ (.int .i64 (q : Int))).setCell ⟨XB, 2, none⟩ (.int .i64 (l + 1))) ax [t, ByteArray.empty, e3] := (strs_set (strs_set (strs_set sx gX _) gX _) gX _)
              refine hKq.out _ _ (HK.out _ hS) (fun hHd17 => ?_)
              clear hKq Kq
              try simp only [PS]
              refine wpAnyH_done (by kernel_rfl) ?_ _
              go_wp2_with fail
              go_meet
              exact ⟨XB, ax, cx, rfl, rX', sx', hS⟩
          case rest =>
            obtain ⟨X16, a16, c16, rfl, rX16, s16, hbt⟩ := hcut
            clear cL
            have rB := rB.below hbt
            have dk := dk.below hbt
            have bL := bL.trans (hbt.mono bL.size)
            have be0 := be0.trans (hbt.mono be0.size)
            clear hbt
            go_upto_region 26 with fail
            go_cut [17] from 177 to 188 (fun v7 wx => ∃ (X : Nat) (ax : Option Addr) (cx : Nat), v7 = .pointer (some ⟨X, 0, none⟩) ∧ Row wx X [.slice ax 2 cx, .int .i64 ((K : Int) + 1), .int .i64 (l + 1)] ∧ Strs wx ax [t, ByteArray.empty] ∧ Below wc.heap.size wc wx)
            case first =>
              have HK : Hid (∀ W, Below wc.heap.size wc W → W.cell? ⟨B, 0, none⟩ = some (.slice a0 100 c0) ∧ W.cell? ⟨B, 1, none⟩ = some (.slice a1 q c1)) := fun W hb => ⟨(rB.below hb).cell 0 _ rfl, (rB.below hb).cell 1 _ rfl⟩
              have HDK := hid dk
              have HWB := hid be0
              refine wp_region_held_drew (S := fun w' => w'.cell? ⟨B, 0, none⟩ = some (.slice a0 100 c0) ∧ w'.cell? ⟨B, 1, none⟩ = some (.slice a1 q c1)) (by kernel_rfl) (HK.out _ (Below.refl _ _).drew) (fun hHeld => ?_)
              refine TK (i := 0) (v := .agg #[.slice a0 100 c0, .slice a1 q c1]) rfl (Or.inl ⟨by rfl, fun w hw => by obtain ⟨z0, z1⟩ := hw; go_simp⟩) hHeld ?_
              simp only [PS]
              refine TK (i := 1) (v := .int .i64 (q : Int)) rfl (Or.inl ⟨by rfl, fun w hw => by obtain ⟨z0, z1⟩ := hw; go_simp⟩) hHeld ?_
              simp only [PS]
              refine TK (i := 2) (v := .int .i64 (1 + (q : Int))) rfl (Or.inl ⟨by rfl, fun w hw => by obtain ⟨z0, z1⟩ := hw; go_simp⟩) hHeld ?_
              simp only [PS]
              refine TK (i := 8) (v := .int .i64 f) rfl (Or.inl ⟨by rfl, fun w hw => by obtain ⟨z0, z1⟩ := hw; go_simp⟩) hHeld ?_
              simp only [PS]
              refine TK (i := 9) (v := .int .i64 l) rfl (Or.inl ⟨by rfl, fun w hw => by obtain ⟨z0, z1⟩ := hw; go_simp⟩) hHeld ?_
              simp only [PS]
              refine TK (i := 10) (v := .int .i64 (wn : Int)) rfl (Or.inl ⟨by rfl, fun w hw => by obtain ⟨z0, z1⟩ := hw; go_simp⟩) hHeld ?_
              simp only [PS]
              refine wpAnyH_ready (rs := [3, 12]) (by kernel_rfl) (by simp) ?_
              refine AllReadyH.cons rfl (fun Kq hKq => ?_) (AllReadyH.cons rfl (fun Kq hKq => ?_) AllReadyH.nil)
              · obtain ⟨u0, e_u0⟩ : ∃ x, x = wc.drew := ⟨_, rfl⟩
                rw [← e_u0]
                have hA0 : Below wc.heap.size wc u0 := by rw [e_u0]; exact (Below.refl _ _).drew
                clear e_u0
                refine step_make (by rfl) _ _ 22 rfl 5 _ 1 1 Tryd.underlying22 infoU8 64 rfl rfl (by omega) (by omega) ?_
                intro u1 rM hb_1
                rw [made_one _ rfl] at rM
                obtain ⟨MB, e_MB⟩ : ∃ x, x = u0.heap.size := ⟨_, rfl⟩
                rw [← e_MB]
                rw [← e_MB] at rM
                clear e_MB
                have hA1 := hA0.trans (hb_1.mono hA0.size)
                refine hKq.out _ _ (HK.out _ hA1) (fun hHd1 => ?_)
                clear hKq Kq
                try simp only [PS]
                refine wpAnyH_ready (rs := [4, 12]) (by kernel_rfl) (by simp) ?_
                refine AllReadyH.cons rfl (fun Kq hKq => ?_) (AllReadyH.cons rfl (fun Kq hKq => ?_) AllReadyH.nil)
                · have _c := FF.out.zd u1 MB (fun i hi => rM.cell i _ (by rw [List.getElem?_replicate, if_pos hi]))
                  go_simp
                  clear _c
                  refine hKq.out _ _ (HK.out _ hA1) (fun hHd2 => ?_)
                  clear hKq Kq
                  try simp only [PS]
                  refine TK (i := 5) (v := .agg #[.bool false, .int .i64 (1 + (q : Int)), .string ZR]) rfl (Or.inl ⟨by rfl, fun w hw => by obtain ⟨z0, z1⟩ := hw; go_simp⟩) hHd2 ?_
                  simp only [PS]
                  refine wpAnyH_ready (rs := [6, 12]) (by kernel_rfl) (by simp) ?_
                  refine AllReadyH.cons rfl (fun Kq hKq => ?_) (AllReadyH.cons rfl (fun Kq hKq => ?_) AllReadyH.nil)
                  · go_simp
                    have hb_2 := below_nw u1 (.cells #[.bool false, .int .i64 (1 + (q : Int)), .string ZR] 35)
                    have rO := row_new u1 #[.bool false, .int .i64 (1 + (q : Int)), .string ZR] 35
                    obtain ⟨u2, e_u2⟩ : ∃ x, x = u1.alloc (.cells #[.bool false, .int .i64 (1 + (q : Int)), .string ZR] 35) := ⟨_, rfl⟩
                    obtain ⟨OB, e_OB⟩ : ∃ x, x = u1.heap.size := ⟨_, rfl⟩
                    rw [← e_u2]
                    try rw [← e_OB]
                    rw [← e_u2] at hb_2 rO
                    rw [← e_OB] at rO
                    have hA2 := hA1.trans (hb_2.mono hA1.size)
                    have l_OB : wc.heap.size ≤ OB := by rw [e_OB]; exact hA1.size
                    have rM := rM.below hb_2
                    have E_OB := hid e_OB
                    clear e_u2
                    clear e_OB
                    refine hKq.out _ _ (HK.out _ hA2) (fun hHd3 => ?_)
                    clear hKq Kq
                    try simp only [PS]
                    refine wpAnyH_ready (rs := [7, 12]) (by kernel_rfl) (by simp) ?_
                    refine AllReadyH.cons rfl (fun Kq hKq => ?_) (AllReadyH.cons rfl (fun Kq hKq => ?_) AllReadyH.nil)
                    · refine step_call (by rfl) 13 #[diskV a0 100 c0 a1 q c1, .slice (some ⟨OB, 0, none⟩) 1 1, .int .i64 1] (by go_simp) (pf_one a0 c0 a1 c1 (laidW PP) q (q + 1) (1 + (q : Int), ZR) OB 1 u2 (HDK.out.below hA2) HWq.out rfl FF.out.w0 FF.out.wz rO (by decide)) ?_
                      rintro e u3 ⟨x0, y0, x1, y1, rfl, dk1, j1, j2, hb_3⟩
                      refine ⟨_, rfl, ?_⟩
                      have hA3 := hA2.trans (hb_3.mono hA2.size)
                      refine hKq.out _ _ (HK.out _ hA3) (fun hHd4 => ?_)
                      clear hKq Kq
                      try simp only [PS]
                      refine wpAnyH_ready (rs := [11, 12]) (by kernel_rfl) (by simp) ?_
                      refine AllReadyH.cons rfl (fun Kq hKq => ?_) (AllReadyH.cons rfl (fun Kq hKq => ?_) AllReadyH.nil)
                      · refine step_call (by rfl) 14 #[diskV x0 100 y0 x1 (q + 1) y1, .int .i64 2, .int .i64 90, .int .i64 f, .int .i64 l, .int .i64 (wn : Int)] (by go_simp) (HSC.out x0 y0 x1 y1 _ (q + 1) 90 f [t, ByteArray.empty] 2 ((K : Int) + 1) (l + 1) u3 (HWB.out.trans (hA3.mono HWB.out.size)) dk1 (by rw [List.length_append, HWq.out]; exact rfl) FF.out.wz (by decide) FF.out.ff FF.out.sz rfl) ?_
                        rintro e u4 ⟨ax, cx, rfl, sx, gx, hb_4⟩
                        refine ⟨_, rfl, ?_⟩
                        have hA4 := hA3.trans (hb_4.mono hA3.size)
                        refine hKq.out _ _ (HK.out _ hA4) (fun hHd5 => ?_)
                        clear hKq Kq
                        try simp only [PS]
                        refine wpAnyH_ready (rs := [12]) (by kernel_rfl) (by simp) ?_
                        refine AllReadyH.cons rfl (fun Kq hKq => ?_) AllReadyH.nil
                        have gX0 : ∀ g o, ax = some ⟨g, o, none⟩ → g < u4.heap.size := fun g o e => strs_lt sx (by simp) e
                        go_simp
                        have hb_5 := below_nw u4 (.cells #[.slice none 0 0, .int .i64 0, .int .i64 0] 38)
                        have rX := row_new u4 #[.slice none 0 0, .int .i64 0, .int .i64 0] 38
                        obtain ⟨u5, e_u5⟩ : ∃ x, x = u4.alloc (.cells #[.slice none 0 0, .int .i64 0, .int .i64 0] 38) := ⟨_, rfl⟩
                        obtain ⟨XB, e_XB⟩ : ∃ x, x = u4.heap.size := ⟨_, rfl⟩
                        rw [← e_u5]
                        try rw [← e_XB]
                        rw [← e_u5] at hb_5 rX
                        rw [← e_XB] at rX
                        have hA5 := hA4.trans (hb_5.mono hA4.size)
                        have l_XB : wc.heap.size ≤ XB := by rw [e_XB]; exact hA4.size
                        have sx := sx.below hb_5
                        have E_XB := hid e_XB
                        clear e_u5
                        clear e_XB
                        have gX : ∀ g o, ax = some ⟨g, o, none⟩ → g ≠ XB := fun g o e => by have := gX0 g o e; have := E_XB.out; omega
                        refine hKq.out _ _ (HK.out _ hA5) (fun hHd6 => ?_)
                        clear hKq Kq
                        try simp only [PS]
                        refine wpAnyH_ready (rs := [13]) (by kernel_rfl) (by simp) ?_
                        refine AllReadyH.cons rfl (fun Kq hKq => ?_) AllReadyH.nil
                        have z0 := rX.cell 0 _ rfl
                        have z1 := rX.cell 1 _ rfl
                        have z2 := rX.cell 2 _ rfl
                        have zf0 := rX.froz 0 (by simp)
                        have zf1 := rX.froz 1 (by simp)
                        have zf2 := rX.froz 2 (by simp)
                        have zl := rX.lt
                        go_simp
                        have hS : Below wc.heap.size wc (((u5.setCell ⟨XB, 0, none⟩ (.slice ax 2 cx)).setCell ⟨XB, 1, none⟩ (.int .i64 ((K : Int) + 1))).setCell ⟨XB, 2, none⟩ (.int .i64 (l + 1))) := (((hA5.setCell l_XB _).setCell l_XB _).setCell l_XB _)
                        have rX' : Row (((u5.setCell ⟨XB, 0, none⟩ (.slice ax 2 cx)).setCell ⟨XB, 1, none⟩ (.int .i64 ((K : Int) + 1))).setCell ⟨XB, 2, none⟩ (.int .i64 (l + 1))) XB [.slice ax 2 cx, .int .i64 ((K : Int) + 1), .int .i64 (l + 1)] := (((rX.set 0 (by simp) _).set 1 (by simp) _).set 2 (by simp) _)
                        have sx' : Strs (((u5.setCell ⟨XB, 0, none⟩ (.slice ax 2 cx)).setCell ⟨XB, 1, none⟩ (.int .i64 ((K : Int) + 1))).setCell ⟨XB, 2, none⟩ (.int .i64 (l + 1))) ax [t, ByteArray.empty] := (strs_set (strs_set (strs_set sx gX _) gX _) gX _)
                        refine hKq.out _ _ (HK.out _ hS) (fun hHd7 => ?_)
                        clear hKq Kq
                        try simp only [PS]
                        refine wpAnyH_done (by kernel_rfl) ?_ _
                        go_wp2_with fail
                        go_meet
                        exact ⟨XB, ax, cx, rfl, rX', sx', hS⟩
                      · go_simp
                        have hb_4 := below_nw u3 (.cells #[.slice none 0 0, .int .i64 0, .int .i64 0] 38)
                        have rX := row_new u3 #[.slice none 0 0, .int .i64 0, .int .i64 0] 38
                        obtain ⟨u4, e_u4⟩ : ∃ x, x = u3.alloc (.cells #[.slice none 0 0, .int .i64 0, .int .i64 0] 38) := ⟨_, rfl⟩
                        obtain ⟨XB, e_XB⟩ : ∃ x, x = u3.heap.size := ⟨_, rfl⟩
                        rw [← e_u4]
                        try rw [← e_XB]
                        rw [← e_u4] at hb_4 rX
                        rw [← e_XB] at rX
                        have hA4 := hA3.trans (hb_4.mono hA3.size)
                        have l_XB : wc.heap.size ≤ XB := by rw [e_XB]; exact hA3.size
                        have dk1 := dk1.below hb_4
                        have E_XB := hid e_XB
                        clear e_u4
                        clear e_XB
                        refine hKq.out _ _ (HK.out _ hA4) (fun hHd8 => ?_)
                        clear hKq Kq
                        try simp only [PS]
                        refine wpAnyH_ready (rs := [11]) (by kernel_rfl) (by simp) ?_
                        refine AllReadyH.cons rfl (fun Kq hKq => ?_) AllReadyH.nil
                        have hXl := rX.lt
                        refine step_call (by rfl) 14 #[diskV x0 100 y0 x1 (q + 1) y1, .int .i64 2, .int .i64 90, .int .i64 f, .int .i64 l, .int .i64 (wn : Int)] (by go_simp) (HSC.out x0 y0 x1 y1 _ (q + 1) 90 f [t, ByteArray.empty] 2 ((K : Int) + 1) (l + 1) u4 (HWB.out.trans (hA4.mono HWB.out.size)) dk1 (by rw [List.length_append, HWq.out]; exact rfl) FF.out.wz (by decide) FF.out.ff FF.out.sz rfl) ?_
                        rintro e u5 ⟨ax, cx, rfl, sx, gx, hb_5⟩
                        refine ⟨_, rfl, ?_⟩
                        have hA5 := hA4.trans (hb_5.mono hA4.size)
                        have rX := rX.below hb_5
                        have gX : ∀ g o, ax = some ⟨g, o, none⟩ → g ≠ XB := fun g o e => by have := gx g o e (by omega); omega
                        refine hKq.out _ _ (HK.out _ hA5) (fun hHd9 => ?_)
                        clear hKq Kq
                        try simp only [PS]
                        refine wpAnyH_ready (rs := [13]) (by kernel_rfl) (by simp) ?_
                        refine AllReadyH.cons rfl (fun Kq hKq => ?_) AllReadyH.nil
                        have z0 := rX.cell 0 _ rfl
                        have z1 := rX.cell 1 _ rfl
                        have z2 := rX.cell 2 _ rfl
                        have zf0 := rX.froz 0 (by simp)
                        have zf1 := rX.froz 1 (by simp)
                        have zf2 := rX.froz 2 (by simp)
                        have zl := rX.lt
                        go_simp
                        have hS : Below wc.heap.size wc (((u5.setCell ⟨XB, 0, none⟩ (.slice ax 2 cx)).setCell ⟨XB, 1, none⟩ (.int .i64 ((K : Int) + 1))).setCell ⟨XB, 2, none⟩ (.int .i64 (l + 1))) := (((hA5.setCell l_XB _).setCell l_XB _).setCell l_XB _)
                        have rX' : Row (((u5.setCell ⟨XB, 0, none⟩ (.slice ax 2 cx)).setCell ⟨XB, 1, none⟩ (.int .i64 ((K : Int) + 1))).setCell ⟨XB, 2, none⟩ (.int .i64 (l + 1))) XB [.slice ax 2 cx, .int .i64 ((K : Int) + 1), .int .i64 (l + 1)] := (((rX.set 0 (by simp) _).set 1 (by simp) _).set 2 (by simp) _)
                        have sx' : Strs (((u5.setCell ⟨XB, 0, none⟩ (.slice ax 2 cx)).setCell ⟨XB, 1, none⟩ (.int .i64 ((K : Int) + 1))).setCell ⟨XB, 2, none⟩ (.int .i64 (l + 1))) ax [t, ByteArray.empty] := (strs_set (strs_set (strs_set sx gX _) gX _) gX _)
                        refine hKq.out _ _ (HK.out _ hS) (fun hHd10 => ?_)
                        clear hKq Kq
                        try simp only [PS]
                        refine wpAnyH_done (by kernel_rfl) ?_ _
                        go_wp2_with fail
                        go_meet
                        exact ⟨XB, ax, cx, rfl, rX', sx', hS⟩
                    · go_simp
                      have hb_3 := below_nw u2 (.cells #[.slice none 0 0, .int .i64 0, .int .i64 0] 38)
                      have rX := row_new u2 #[.slice none 0 0, .int .i64 0, .int .i64 0] 38
                      obtain ⟨u3, e_u3⟩ : ∃ x, x = u2.alloc (.cells #[.slice none 0 0, .int .i64 0, .int .i64 0] 38) := ⟨_, rfl⟩
                      obtain ⟨XB, e_XB⟩ : ∃ x, x = u2.heap.size := ⟨_, rfl⟩
                      rw [← e_u3]
                      try rw [← e_XB]
                      rw [← e_u3] at hb_3 rX
                      rw [← e_XB] at rX
                      have hA3 := hA2.trans (hb_3.mono hA2.size)
                      have l_XB : wc.heap.size ≤ XB := by rw [e_XB]; exact hA2.size
                      have rO := rO.below hb_3
                      have E_XB := hid e_XB
                      clear e_u3
                      clear e_XB
                      refine hKq.out _ _ (HK.out _ hA3) (fun hHd11 => ?_)
                      clear hKq Kq
                      try simp only [PS]
                      refine wpAnyH_ready (rs := [7]) (by kernel_rfl) (by simp) ?_
                      refine AllReadyH.cons rfl (fun Kq hKq => ?_) AllReadyH.nil
                      refine step_call (by rfl) 13 #[diskV a0 100 c0 a1 q c1, .slice (some ⟨OB, 0, none⟩) 1 1, .int .i64 1] (by go_simp) (pf_one a0 c0 a1 c1 (laidW PP) q (q + 1) (1 + (q : Int), ZR) OB 1 u3 (HDK.out.below hA3) HWq.out rfl FF.out.w0 FF.out.wz rO (by decide)) ?_
                      rintro e u4 ⟨x0, y0, x1, y1, rfl, dk1, j1, j2, hb_4⟩
                      refine ⟨_, rfl, ?_⟩
                      have hA4 := hA3.trans (hb_4.mono hA3.size)
                      have rX := rX.below hb_4
                      refine hKq.out _ _ (HK.out _ hA4) (fun hHd12 => ?_)
                      clear hKq Kq
                      try simp only [PS]
                      refine wpAnyH_ready (rs := [11]) (by kernel_rfl) (by simp) ?_
                      refine AllReadyH.cons rfl (fun Kq hKq => ?_) AllReadyH.nil
                      have hXl := rX.lt
                      refine step_call (by rfl) 14 #[diskV x0 100 y0 x1 (q + 1) y1, .int .i64 2, .int .i64 90, .int .i64 f, .int .i64 l, .int .i64 (wn : Int)] (by go_simp) (HSC.out x0 y0 x1 y1 _ (q + 1) 90 f [t, ByteArray.empty] 2 ((K : Int) + 1) (l + 1) u4 (HWB.out.trans (hA4.mono HWB.out.size)) dk1 (by rw [List.length_append, HWq.out]; exact rfl) FF.out.wz (by decide) FF.out.ff FF.out.sz rfl) ?_
                      rintro e u5 ⟨ax, cx, rfl, sx, gx, hb_5⟩
                      refine ⟨_, rfl, ?_⟩
                      have hA5 := hA4.trans (hb_5.mono hA4.size)
                      have rX := rX.below hb_5
                      have gX : ∀ g o, ax = some ⟨g, o, none⟩ → g ≠ XB := fun g o e => by have := gx g o e (by omega); omega
                      refine hKq.out _ _ (HK.out _ hA5) (fun hHd13 => ?_)
                      clear hKq Kq
                      try simp only [PS]
                      refine wpAnyH_ready (rs := [13]) (by kernel_rfl) (by simp) ?_
                      refine AllReadyH.cons rfl (fun Kq hKq => ?_) AllReadyH.nil
                      have z0 := rX.cell 0 _ rfl
                      have z1 := rX.cell 1 _ rfl
                      have z2 := rX.cell 2 _ rfl
                      have zf0 := rX.froz 0 (by simp)
                      have zf1 := rX.froz 1 (by simp)
                      have zf2 := rX.froz 2 (by simp)
                      have zl := rX.lt
                      go_simp
                      have hS : Below wc.heap.size wc (((u5.setCell ⟨XB, 0, none⟩ (.slice ax 2 cx)).setCell ⟨XB, 1, none⟩ (.int .i64 ((K : Int) + 1))).setCell ⟨XB, 2, none⟩ (.int .i64 (l + 1))) := (((hA5.setCell l_XB _).setCell l_XB _).setCell l_XB _)
                      have rX' : Row (((u5.setCell ⟨XB, 0, none⟩ (.slice ax 2 cx)).setCell ⟨XB, 1, none⟩ (.int .i64 ((K : Int) + 1))).setCell ⟨XB, 2, none⟩ (.int .i64 (l + 1))) XB [.slice ax 2 cx, .int .i64 ((K : Int) + 1), .int .i64 (l + 1)] := (((rX.set 0 (by simp) _).set 1 (by simp) _).set 2 (by simp) _)
                      have sx' : Strs (((u5.setCell ⟨XB, 0, none⟩ (.slice ax 2 cx)).setCell ⟨XB, 1, none⟩ (.int .i64 ((K : Int) + 1))).setCell ⟨XB, 2, none⟩ (.int .i64 (l + 1))) ax [t, ByteArray.empty] := (strs_set (strs_set (strs_set sx gX _) gX _) gX _)
                      refine hKq.out _ _ (HK.out _ hS) (fun hHd14 => ?_)
                      clear hKq Kq
                      try simp only [PS]
                      refine wpAnyH_done (by kernel_rfl) ?_ _
                      go_wp2_with fail
                      go_meet
                      exact ⟨XB, ax, cx, rfl, rX', sx', hS⟩
                  · go_simp
                    have hb_2 := below_nw u1 (.cells #[.slice none 0 0, .int .i64 0, .int .i64 0] 38)
                    have rX := row_new u1 #[.slice none 0 0, .int .i64 0, .int .i64 0] 38
                    obtain ⟨u2, e_u2⟩ : ∃ x, x = u1.alloc (.cells #[.slice none 0 0, .int .i64 0, .int .i64 0] 38) := ⟨_, rfl⟩
                    obtain ⟨XB, e_XB⟩ : ∃ x, x = u1.heap.size := ⟨_, rfl⟩
                    rw [← e_u2]
                    try rw [← e_XB]
                    rw [← e_u2] at hb_2 rX
                    rw [← e_XB] at rX
                    have hA2 := hA1.trans (hb_2.mono hA1.size)
                    have l_XB : wc.heap.size ≤ XB := by rw [e_XB]; exact hA1.size
                    have rM := rM.below hb_2
                    have E_XB := hid e_XB
                    clear e_u2
                    clear e_XB
                    refine hKq.out _ _ (HK.out _ hA2) (fun hHd15 => ?_)
                    clear hKq Kq
                    try simp only [PS]
                    refine wpAnyH_ready (rs := [6]) (by kernel_rfl) (by simp) ?_
                    refine AllReadyH.cons rfl (fun Kq hKq => ?_) AllReadyH.nil
                    go_simp
                    have hb_3 := below_nw u2 (.cells #[.bool false, .int .i64 (1 + (q : Int)), .string ZR] 35)
                    have rO := row_new u2 #[.bool false, .int .i64 (1 + (q : Int)), .string ZR] 35
                    obtain ⟨u3, e_u3⟩ : ∃ x, x = u2.alloc (.cells #[.bool false, .int .i64 (1 + (q : Int)), .string ZR] 35) := ⟨_, rfl⟩
                    obtain ⟨OB, e_OB⟩ : ∃ x, x = u2.heap.size := ⟨_, rfl⟩
                    rw [← e_u3]
                    try rw [← e_OB]
                    rw [← e_u3] at hb_3 rO
                    rw [← e_OB] at rO
                    have hA3 := hA2.trans (hb_3.mono hA2.size)
                    have l_OB : wc.heap.size ≤ OB := by rw [e_OB]; exact hA2.size
                    have rM := rM.below hb_3
                    have rX := rX.below hb_3
                    have E_OB := hid e_OB
                    clear e_u3
                    clear e_OB
                    refine hKq.out _ _ (HK.out _ hA3) (fun hHd16 => ?_)
                    clear hKq Kq
                    try simp only [PS]
                    refine wpAnyH_ready (rs := [7]) (by kernel_rfl) (by simp) ?_
                    refine AllReadyH.cons rfl (fun Kq hKq => ?_) AllReadyH.nil
                    refine step_call (by rfl) 13 #[diskV a0 100 c0 a1 q c1, .slice (some ⟨OB, 0, none⟩) 1 1, .int .i64 1] (by go_simp) (pf_one a0 c0 a1 c1 (laidW PP) q (q + 1) (1 + (q : Int), ZR) OB 1 u3 (HDK.out.below hA3) HWq.out rfl FF.out.w0 FF.out.wz rO (by decide)) ?_
                    rintro e u4 ⟨x0, y0, x1, y1, rfl, dk1, j1, j2, hb_4⟩
                    refine ⟨_, rfl, ?_⟩
                    have hA4 := hA3.trans (hb_4.mono hA3.size)
                    have rX := rX.below hb_4
                    refine hKq.out _ _ (HK.out _ hA4) (fun hHd17 => ?_)
                    clear hKq Kq
                    try simp only [PS]
                    refine wpAnyH_ready (rs := [11]) (by kernel_rfl) (by simp) ?_
                    refine AllReadyH.cons rfl (fun Kq hKq => ?_) AllReadyH.nil
                    have hXl := rX.lt
                    refine step_call (by rfl) 14 #[diskV x0 100 y0 x1 (q + 1) y1, .int .i64 2, .int .i64 90, .int .i64 f, .int .i64 l, .int .i64 (wn : Int)] (by go_simp) (HSC.out x0 y0 x1 y1 _ (q + 1) 90 f [t, ByteArray.empty] 2 ((K : Int) + 1) (l + 1) u4 (HWB.out.trans (hA4.mono HWB.out.size)) dk1 (by rw [List.length_append, HWq.out]; exact rfl) FF.out.wz (by decide) FF.out.ff FF.out.sz rfl) ?_
                    rintro e u5 ⟨ax, cx, rfl, sx, gx, hb_5⟩
                    refine ⟨_, rfl, ?_⟩
                    have hA5 := hA4.trans (hb_5.mono hA4.size)
                    have rX := rX.below hb_5
                    have gX : ∀ g o, ax = some ⟨g, o, none⟩ → g ≠ XB := fun g o e => by have := gx g o e (by omega); omega
                    refine hKq.out _ _ (HK.out _ hA5) (fun hHd18 => ?_)
                    clear hKq Kq
                    try simp only [PS]
                    refine wpAnyH_ready (rs := [13]) (by kernel_rfl) (by simp) ?_
                    refine AllReadyH.cons rfl (fun Kq hKq => ?_) AllReadyH.nil
                    have z0 := rX.cell 0 _ rfl
                    have z1 := rX.cell 1 _ rfl
                    have z2 := rX.cell 2 _ rfl
                    have zf0 := rX.froz 0 (by simp)
                    have zf1 := rX.froz 1 (by simp)
                    have zf2 := rX.froz 2 (by simp)
                    have zl := rX.lt
                    go_simp
                    have hS : Below wc.heap.size wc (((u5.setCell ⟨XB, 0, none⟩ (.slice ax 2 cx)).setCell ⟨XB, 1, none⟩ (.int .i64 ((K : Int) + 1))).setCell ⟨XB, 2, none⟩ (.int .i64 (l + 1))) := (((hA5.setCell l_XB _).setCell l_XB _).setCell l_XB _)
                    have rX' : Row (((u5.setCell ⟨XB, 0, none⟩ (.slice ax 2 cx)).setCell ⟨XB, 1, none⟩ (.int .i64 ((K : Int) + 1))).setCell ⟨XB, 2, none⟩ (.int .i64 (l + 1))) XB [.slice ax 2 cx, .int .i64 ((K : Int) + 1), .int .i64 (l + 1)] := (((rX.set 0 (by simp) _).set 1 (by simp) _).set 2 (by simp) _)
                    have sx' : Strs (((u5.setCell ⟨XB, 0, none⟩ (.slice ax 2 cx)).setCell ⟨XB, 1, none⟩ (.int .i64 ((K : Int) + 1))).setCell ⟨XB, 2, none⟩ (.int .i64 (l + 1))) ax [t, ByteArray.empty] := (strs_set (strs_set (strs_set sx gX _) gX _) gX _)
                    refine hKq.out _ _ (HK.out _ hS) (fun hHd19 => ?_)
                    clear hKq Kq
                    try simp only [PS]
                    refine wpAnyH_done (by kernel_rfl) ?_ _
                    go_wp2_with fail
                    go_meet
                    exact ⟨XB, ax, cx, rfl, rX', sx', hS⟩
                · go_simp
                  have hb_2 := below_nw u1 (.cells #[.slice none 0 0, .int .i64 0, .int .i64 0] 38)
                  have rX := row_new u1 #[.slice none 0 0, .int .i64 0, .int .i64 0] 38
                  obtain ⟨u2, e_u2⟩ : ∃ x, x = u1.alloc (.cells #[.slice none 0 0, .int .i64 0, .int .i64 0] 38) := ⟨_, rfl⟩
                  obtain ⟨XB, e_XB⟩ : ∃ x, x = u1.heap.size := ⟨_, rfl⟩
                  rw [← e_u2]
                  try rw [← e_XB]
                  rw [← e_u2] at hb_2 rX
                  rw [← e_XB] at rX
                  have hA2 := hA1.trans (hb_2.mono hA1.size)
                  have l_XB : wc.heap.size ≤ XB := by rw [e_XB]; exact hA1.size
                  have rM := rM.below hb_2
                  have E_XB := hid e_XB
                  clear e_u2
                  clear e_XB
                  refine hKq.out _ _ (HK.out _ hA2) (fun hHd20 => ?_)
                  clear hKq Kq
                  try simp only [PS]
                  refine wpAnyH_ready (rs := [4]) (by kernel_rfl) (by simp) ?_
                  refine AllReadyH.cons rfl (fun Kq hKq => ?_) AllReadyH.nil
                  have _c := FF.out.zd u2 MB (fun i hi => rM.cell i _ (by rw [List.getElem?_replicate, if_pos hi]))
                  go_simp
                  clear _c
                  refine hKq.out _ _ (HK.out _ hA2) (fun hHd21 => ?_)
                  clear hKq Kq
                  try simp only [PS]
                  refine TK (i := 5) (v := .agg #[.bool false, .int .i64 (1 + (q : Int)), .string ZR]) rfl (Or.inl ⟨by rfl, fun w hw => by obtain ⟨z0, z1⟩ := hw; go_simp⟩) hHd21 ?_
                  simp only [PS]
                  refine wpAnyH_ready (rs := [6]) (by kernel_rfl) (by simp) ?_
                  refine AllReadyH.cons rfl (fun Kq hKq => ?_) AllReadyH.nil
                  go_simp
                  have hb_3 := below_nw u2 (.cells #[.bool false, .int .i64 (1 + (q : Int)), .string ZR] 35)
                  have rO := row_new u2 #[.bool false, .int .i64 (1 + (q : Int)), .string ZR] 35
                  obtain ⟨u3, e_u3⟩ : ∃ x, x = u2.alloc (.cells #[.bool false, .int .i64 (1 + (q : Int)), .string ZR] 35) := ⟨_, rfl⟩
                  obtain ⟨OB, e_OB⟩ : ∃ x, x = u2.heap.size := ⟨_, rfl⟩
                  rw [← e_u3]
                  try rw [← e_OB]
                  rw [← e_u3] at hb_3 rO
                  rw [← e_OB] at rO
                  have hA3 := hA2.trans (hb_3.mono hA2.size)
                  have l_OB : wc.heap.size ≤ OB := by rw [e_OB]; exact hA2.size
                  have rM := rM.below hb_3
                  have rX := rX.below hb_3
                  have E_OB := hid e_OB
                  clear e_u3
                  clear e_OB
                  refine hKq.out _ _ (HK.out _ hA3) (fun hHd22 => ?_)
                  clear hKq Kq
                  try simp only [PS]
                  refine wpAnyH_ready (rs := [7]) (by kernel_rfl) (by simp) ?_
                  refine AllReadyH.cons rfl (fun Kq hKq => ?_) AllReadyH.nil
                  refine step_call (by rfl) 13 #[diskV a0 100 c0 a1 q c1, .slice (some ⟨OB, 0, none⟩) 1 1, .int .i64 1] (by go_simp) (pf_one a0 c0 a1 c1 (laidW PP) q (q + 1) (1 + (q : Int), ZR) OB 1 u3 (HDK.out.below hA3) HWq.out rfl FF.out.w0 FF.out.wz rO (by decide)) ?_
                  rintro e u4 ⟨x0, y0, x1, y1, rfl, dk1, j1, j2, hb_4⟩
                  refine ⟨_, rfl, ?_⟩
                  have hA4 := hA3.trans (hb_4.mono hA3.size)
                  have rX := rX.below hb_4
                  refine hKq.out _ _ (HK.out _ hA4) (fun hHd23 => ?_)
                  clear hKq Kq
                  try simp only [PS]
                  refine wpAnyH_ready (rs := [11]) (by kernel_rfl) (by simp) ?_
                  refine AllReadyH.cons rfl (fun Kq hKq => ?_) AllReadyH.nil
                  have hXl := rX.lt
                  refine step_call (by rfl) 14 #[diskV x0 100 y0 x1 (q + 1) y1, .int .i64 2, .int .i64 90, .int .i64 f, .int .i64 l, .int .i64 (wn : Int)] (by go_simp) (HSC.out x0 y0 x1 y1 _ (q + 1) 90 f [t, ByteArray.empty] 2 ((K : Int) + 1) (l + 1) u4 (HWB.out.trans (hA4.mono HWB.out.size)) dk1 (by rw [List.length_append, HWq.out]; exact rfl) FF.out.wz (by decide) FF.out.ff FF.out.sz rfl) ?_
                  rintro e u5 ⟨ax, cx, rfl, sx, gx, hb_5⟩
                  refine ⟨_, rfl, ?_⟩
                  have hA5 := hA4.trans (hb_5.mono hA4.size)
                  have rX := rX.below hb_5
                  have gX : ∀ g o, ax = some ⟨g, o, none⟩ → g ≠ XB := fun g o e => by have := gx g o e (by omega); omega
                  refine hKq.out _ _ (HK.out _ hA5) (fun hHd24 => ?_)
                  clear hKq Kq
                  try simp only [PS]
                  refine wpAnyH_ready (rs := [13]) (by kernel_rfl) (by simp) ?_
                  refine AllReadyH.cons rfl (fun Kq hKq => ?_) AllReadyH.nil
                  have z0 := rX.cell 0 _ rfl
                  have z1 := rX.cell 1 _ rfl
                  have z2 := rX.cell 2 _ rfl
                  have zf0 := rX.froz 0 (by simp)
                  have zf1 := rX.froz 1 (by simp)
                  have zf2 := rX.froz 2 (by simp)
                  have zl := rX.lt
                  go_simp
                  have hS : Below wc.heap.size wc (((u5.setCell ⟨XB, 0, none⟩ (.slice ax 2 cx)).setCell ⟨XB, 1, none⟩ (.int .i64 ((K : Int) + 1))).setCell ⟨XB, 2, none⟩ (.int .i64 (l + 1))) := (((hA5.setCell l_XB _).setCell l_XB _).setCell l_XB _)
                  have rX' : Row (((u5.setCell ⟨XB, 0, none⟩ (.slice ax 2 cx)).setCell ⟨XB, 1, none⟩ (.int .i64 ((K : Int) + 1))).setCell ⟨XB, 2, none⟩ (.int .i64 (l + 1))) XB [.slice ax 2 cx, .int .i64 ((K : Int) + 1), .int .i64 (l + 1)] := (((rX.set 0 (by simp) _).set 1 (by simp) _).set 2 (by simp) _)
                  have sx' : Strs (((u5.setCell ⟨XB, 0, none⟩ (.slice ax 2 cx)).setCell ⟨XB, 1, none⟩ (.int .i64 ((K : Int) + 1))).setCell ⟨XB, 2, none⟩ (.int .i64 (l + 1))) ax [t, ByteArray.empty] := (strs_set (strs_set (strs_set sx gX _) gX _) gX _)
                  refine hKq.out _ _ (HK.out _ hS) (fun hHd25 => ?_)
                  clear hKq Kq
                  try simp only [PS]
                  refine wpAnyH_done (by kernel_rfl) ?_ _
                  go_wp2_with fail
                  go_meet
                  exact ⟨XB, ax, cx, rfl, rX', sx', hS⟩
              · obtain ⟨u0, e_u0⟩ : ∃ x, x = wc.drew := ⟨_, rfl⟩
                rw [← e_u0]
                have hA0 : Below wc.heap.size wc u0 := by rw [e_u0]; exact (Below.refl _ _).drew
                clear e_u0
                go_simp
                have hb_1 := below_nw u0 (.cells #[.slice none 0 0, .int .i64 0, .int .i64 0] 38)
                have rX := row_new u0 #[.slice none 0 0, .int .i64 0, .int .i64 0] 38
                obtain ⟨u1, e_u1⟩ : ∃ x, x = u0.alloc (.cells #[.slice none 0 0, .int .i64 0, .int .i64 0] 38) := ⟨_, rfl⟩
                obtain ⟨XB, e_XB⟩ : ∃ x, x = u0.heap.size := ⟨_, rfl⟩
                rw [← e_u1]
                try rw [← e_XB]
                rw [← e_u1] at hb_1 rX
                rw [← e_XB] at rX
                have hA1 := hA0.trans (hb_1.mono hA0.size)
                have l_XB : wc.heap.size ≤ XB := by rw [e_XB]; exact hA0.size
                have E_XB := hid e_XB
                clear e_u1
                clear e_XB
                refine hKq.out _ _ (HK.out _ hA1) (fun hHd26 => ?_)
                clear hKq Kq
                try simp only [PS]
                refine wpAnyH_ready (rs := [3]) (by kernel_rfl) (by simp) ?_
                refine AllReadyH.cons rfl (fun Kq hKq => ?_) AllReadyH.nil
                refine step_make (by rfl) _ _ 22 rfl 5 _ 1 1 Tryd.underlying22 infoU8 64 rfl rfl (by omega) (by omega) ?_
                intro u2 rM hb_2
                rw [made_one _ rfl] at rM
                obtain ⟨MB, e_MB⟩ : ∃ x, x = u1.heap.size := ⟨_, rfl⟩
                rw [← e_MB]
                rw [← e_MB] at rM
                clear e_MB
                have hA2 := hA1.trans (hb_2.mono hA1.size)
                have rX := rX.below hb_2
                refine hKq.out _ _ (HK.out _ hA2) (fun hHd27 => ?_)
                clear hKq Kq
                try simp only [PS]
                refine wpAnyH_ready (rs := [4]) (by kernel_rfl) (by simp) ?_
                refine AllReadyH.cons rfl (fun Kq hKq => ?_) AllReadyH.nil
                have _c := FF.out.zd u2 MB (fun i hi => rM.cell i _ (by rw [List.getElem?_replicate, if_pos hi]))
                go_simp
                clear _c
                refine hKq.out _ _ (HK.out _ hA2) (fun hHd28 => ?_)
                clear hKq Kq
                try simp only [PS]
                refine TK (i := 5) (v := .agg #[.bool false, .int .i64 (1 + (q : Int)), .string ZR]) rfl (Or.inl ⟨by rfl, fun w hw => by obtain ⟨z0, z1⟩ := hw; go_simp⟩) hHd28 ?_
                simp only [PS]
                refine wpAnyH_ready (rs := [6]) (by kernel_rfl) (by simp) ?_
                refine AllReadyH.cons rfl (fun Kq hKq => ?_) AllReadyH.nil
                go_simp
                have hb_3 := below_nw u2 (.cells #[.bool false, .int .i64 (1 + (q : Int)), .string ZR] 35)
                have rO := row_new u2 #[.bool false, .int .i64 (1 + (q : Int)), .string ZR] 35
                obtain ⟨u3, e_u3⟩ : ∃ x, x = u2.alloc (.cells #[.bool false, .int .i64 (1 + (q : Int)), .string ZR] 35) := ⟨_, rfl⟩
                obtain ⟨OB, e_OB⟩ : ∃ x, x = u2.heap.size := ⟨_, rfl⟩
                rw [← e_u3]
                try rw [← e_OB]
                rw [← e_u3] at hb_3 rO
                rw [← e_OB] at rO
                have hA3 := hA2.trans (hb_3.mono hA2.size)
                have l_OB : wc.heap.size ≤ OB := by rw [e_OB]; exact hA2.size
                have rM := rM.below hb_3
                have rX := rX.below hb_3
                have E_OB := hid e_OB
                clear e_u3
                clear e_OB
                refine hKq.out _ _ (HK.out _ hA3) (fun hHd29 => ?_)
                clear hKq Kq
                try simp only [PS]
                refine wpAnyH_ready (rs := [7]) (by kernel_rfl) (by simp) ?_
                refine AllReadyH.cons rfl (fun Kq hKq => ?_) AllReadyH.nil
                refine step_call (by rfl) 13 #[diskV a0 100 c0 a1 q c1, .slice (some ⟨OB, 0, none⟩) 1 1, .int .i64 1] (by go_simp) (pf_one a0 c0 a1 c1 (laidW PP) q (q + 1) (1 + (q : Int), ZR) OB 1 u3 (HDK.out.below hA3) HWq.out rfl FF.out.w0 FF.out.wz rO (by decide)) ?_
                rintro e u4 ⟨x0, y0, x1, y1, rfl, dk1, j1, j2, hb_4⟩
                refine ⟨_, rfl, ?_⟩
                have hA4 := hA3.trans (hb_4.mono hA3.size)
                have rX := rX.below hb_4
                refine hKq.out _ _ (HK.out _ hA4) (fun hHd30 => ?_)
                clear hKq Kq
                try simp only [PS]
                refine wpAnyH_ready (rs := [11]) (by kernel_rfl) (by simp) ?_
                refine AllReadyH.cons rfl (fun Kq hKq => ?_) AllReadyH.nil
                have hXl := rX.lt
                refine step_call (by rfl) 14 #[diskV x0 100 y0 x1 (q + 1) y1, .int .i64 2, .int .i64 90, .int .i64 f, .int .i64 l, .int .i64 (wn : Int)] (by go_simp) (HSC.out x0 y0 x1 y1 _ (q + 1) 90 f [t, ByteArray.empty] 2 ((K : Int) + 1) (l + 1) u4 (HWB.out.trans (hA4.mono HWB.out.size)) dk1 (by rw [List.length_append, HWq.out]; exact rfl) FF.out.wz (by decide) FF.out.ff FF.out.sz rfl) ?_
                rintro e u5 ⟨ax, cx, rfl, sx, gx, hb_5⟩
                refine ⟨_, rfl, ?_⟩
                have hA5 := hA4.trans (hb_5.mono hA4.size)
                have rX := rX.below hb_5
                have gX : ∀ g o, ax = some ⟨g, o, none⟩ → g ≠ XB := fun g o e => by have := gx g o e (by omega); omega
                refine hKq.out _ _ (HK.out _ hA5) (fun hHd31 => ?_)
                clear hKq Kq
                try simp only [PS]
                refine wpAnyH_ready (rs := [13]) (by kernel_rfl) (by simp) ?_
                refine AllReadyH.cons rfl (fun Kq hKq => ?_) AllReadyH.nil
                have z0 := rX.cell 0 _ rfl
                have z1 := rX.cell 1 _ rfl
                have z2 := rX.cell 2 _ rfl
                have zf0 := rX.froz 0 (by simp)
                have zf1 := rX.froz 1 (by simp)
                have zf2 := rX.froz 2 (by simp)
                have zl := rX.lt
                go_simp
                have hS : Below wc.heap.size wc (((u5.setCell ⟨XB, 0, none⟩ (.slice ax 2 cx)).setCell ⟨XB, 1, none⟩ (.int .i64 ((K : Int) + 1))).setCell ⟨XB, 2, none⟩ (.int .i64 (l + 1))) := (((hA5.setCell l_XB _).setCell l_XB _).setCell l_XB _)
                have rX' : Row (((u5.setCell ⟨XB, 0, none⟩ (.slice ax 2 cx)).setCell ⟨XB, 1, none⟩ (.int .i64 ((K : Int) + 1))).setCell ⟨XB, 2, none⟩ (.int .i64 (l + 1))) XB [.slice ax 2 cx, .int .i64 ((K : Int) + 1), .int .i64 (l + 1)] := (((rX.set 0 (by simp) _).set 1 (by simp) _).set 2 (by simp) _)
                have sx' : Strs (((u5.setCell ⟨XB, 0, none⟩ (.slice ax 2 cx)).setCell ⟨XB, 1, none⟩ (.int .i64 ((K : Int) + 1))).setCell ⟨XB, 2, none⟩ (.int .i64 (l + 1))) ax [t, ByteArray.empty] := (strs_set (strs_set (strs_set sx gX _) gX _) gX _)
                refine hKq.out _ _ (HK.out _ hS) (fun hHd32 => ?_)
                clear hKq Kq
                try simp only [PS]
                refine wpAnyH_done (by kernel_rfl) ?_ _
                go_wp2_with fail
                go_meet
                exact ⟨XB, ax, cx, rfl, rX', sx', hS⟩
            case rest =>
              obtain ⟨X17, a17, c17, rfl, rX17, s17, hbt⟩ := hcut
              have rB := rB.below hbt
              have dk := dk.below hbt
              have rX16 := rX16.below hbt
              have s16 := s16.below hbt
              have bL := bL.trans (hbt.mono bL.size)
              have be0 := be0.trans (hbt.mono be0.size)
              clear hbt
              have b0 := rB.cell 0 _ rfl
              have b1 := rB.cell 1 _ rfl
              have bl := rB.lt
              go_wp2_with fail
              clear b0 b1 bl
              have HS := HSC.out a0 c0 a1 c1 (laidW PP) q (q - 1) f [t, ByteArray.empty] 2 ((K : Int) + 1) (l + 1) wc be0 dk HWq.out FF.out.w0 FF.out.q1 FF.out.ff FF.out.ss rfl
              rw [FF.out.qc] at HS
              refine HS.mono ?_
              clear HS
              rintro e t7 ⟨a18, c18, rfl, s18, -, hbt⟩
              have rB := rB.below hbt
              have dk := dk.below hbt
              have rX16 := rX16.below hbt
              have s16 := s16.below hbt
              have rX17 := rX17.below hbt
              have s17 := s17.below hbt
              have bL := bL.trans (hbt.mono bL.size)
              have be0 := be0.trans (hbt.mono be0.size)
              clear hbt
              have rX18 := row_new t7 #[.slice a18 2 c18, .int .i64 ((K : Int) + 1), .int .i64 (l + 1)] 38
              have hbn := below_nw t7 (.cells #[.slice a18 2 c18, .int .i64 ((K : Int) + 1), .int .i64 (l + 1)] 38)
              obtain ⟨v18, e_v18⟩ : ∃ x, x = t7.alloc (.cells #[.slice a18 2 c18, .int .i64 ((K : Int) + 1), .int .i64 (l + 1)] 38) := ⟨_, rfl⟩
              obtain ⟨X18, e_X18⟩ : ∃ x, x = t7.heap.size := ⟨_, rfl⟩
              rw [← e_v18] at hbn rX18
              rw [← e_X18] at rX18
              have rB := rB.below hbn
              have dk := dk.below hbn
              have rX16 := rX16.below hbn
              have s16 := s16.below hbn
              have rX17 := rX17.below hbn
              have s17 := s17.below hbn
              have s18 := s18.below hbn
              have bL := bL.trans (hbn.mono bL.size)
              have be0 := be0.trans (hbn.mono be0.size)
              clear hbn
              go_wp2_with (at_make; refine wpList_make_new rfl _ _ 22 rfl 5 _ 1 1 Tryd.underlying22 infoU8 120 rfl rfl (by omega) (by omega) ?_; rw [← e_v18, ← e_X18]; clear e_v18; clear e_X18; intro t8 hrow hbx hsx; rw [made_one _ rfl] at hrow; have hcv := FF.out.zc t8 v18.heap.size (fun i hi => hrow.cell i _ (by rw [List.getElem?_replicate, if_pos hi])); clear hrow hsx)
              clear hcv
              have rB := rB.below hbx
              have dk := dk.below hbx
              have rX16 := rX16.below hbx
              have s16 := s16.below hbx
              have rX17 := rX17.below hbx
              have s17 := s17.below hbx
              have s18 := s18.below hbx
              have rX18 := rX18.below hbx
              have bL := bL.trans (hbx.mono bL.size)
              have be0 := be0.trans (hbx.mono be0.size)
              clear hbx
              refine (FF.out.cp _).mono ?_
              rintro e t9 ⟨a19, c19, rfl, s19, -, hbt⟩
              have rB := rB.below hbt
              have dk := dk.below hbt
              have rX16 := rX16.below hbt
              have s16 := s16.below hbt
              have rX17 := rX17.below hbt
              have s17 := s17.below hbt
              have s18 := s18.below hbt
              have rX18 := rX18.below hbt
              have bL := bL.trans (hbt.mono bL.size)
              have be0 := be0.trans (hbt.mono be0.size)
              clear hbt
              obtain ⟨b19, o19, p19, rfl, cL, HPk⟩ := s19.at (k := 0) (by rw [FF.out.pl]; omega)
              have e19 : pP = p19 := (HPk.out.trans FF.out.p0).symm
              subst e19
              clear HPk s19
              obtain ⟨q1, hq1⟩ : ∃ x, q + 1 = x := ⟨_, rfl⟩
              have HQ1 := hid hq1
              obtain ⟨q2, hq2⟩ : ∃ x, q1 + 1 = x := ⟨_, rfl⟩
              have HQ2 := hid hq2
              clear hq1 hq2
              go_upto_region 29 with fail
              go_cut [20] from 205 to 213 (fun v7 wx => ∃ (X : Nat) (x0 : Option Addr) (y0 : Nat) (x1 : Option Addr) (y1 : Nat), v7 = .pointer (some ⟨X, 0, none⟩) ∧ Row wx X [.slice x0 100 y0, .slice x1 q1 y1] ∧ LgD wx x0 x1 (laidW PP ++ [(2 + (q : Int), pP)]) ∧ Below t9.heap.size t9 wx)
              case first =>
                have HK : Hid (∀ W, Below t9.heap.size t9 W → W.cell? ⟨B, 0, none⟩ = some (.slice a0 100 c0) ∧ W.cell? ⟨B, 1, none⟩ = some (.slice a1 q c1) ∧ W.cell? ⟨b19, o19, none⟩ = some (.string pP)) := fun W hb => ⟨(rB.below hb).cell 0 _ rfl, (rB.below hb).cell 1 _ rfl, (hb.cell (p := ⟨b19, o19, none⟩) (lt_of_cell cL)).trans cL⟩
                have HDK := hid dk
                have HWB := hid be0
                refine wp_region_held_drew (S := fun w' => w'.cell? ⟨B, 0, none⟩ = some (.slice a0 100 c0) ∧ w'.cell? ⟨B, 1, none⟩ = some (.slice a1 q c1) ∧ w'.cell? ⟨b19, o19, none⟩ = some (.string pP)) (by kernel_rfl) (HK.out _ (Below.refl _ _).drew) (fun hHeld => ?_)
                refine TK (i := 0) (v := .agg #[.slice a0 100 c0, .slice a1 q c1]) rfl (Or.inl ⟨by rfl, fun w hw => by obtain ⟨z0, z1, z2⟩ := hw; go_simp⟩) hHeld ?_
                simp only [PS]
                refine TK (i := 1) (v := .int .i64 (q : Int)) rfl (Or.inl ⟨by rfl, fun w hw => by obtain ⟨z0, z1, z2⟩ := hw; go_simp⟩) hHeld ?_
                simp only [PS]
                refine TK (i := 2) (v := .int .i64 (2 + (q : Int))) rfl (Or.inl ⟨by rfl, fun w hw => by obtain ⟨z0, z1, z2⟩ := hw; go_simp⟩) hHeld ?_
                simp only [PS]
                refine TK (i := 3) (v := .slice (some ⟨b19, o19, none⟩) 3 c19) rfl (Or.inl ⟨by rfl, fun w hw => by obtain ⟨z0, z1, z2⟩ := hw; go_simp⟩) hHeld ?_
                simp only [PS]
                refine TK (i := 4) (v := .pointer (some ⟨b19, o19, none⟩)) rfl (Or.inl ⟨by rfl, fun w hw => by obtain ⟨z0, z1, z2⟩ := hw; go_simp⟩) hHeld ?_
                simp only [PS]
                refine TK (i := 5) (v := .string pP) rfl (Or.inl ⟨by rfl, fun w hw => by obtain ⟨z0, z1, z2⟩ := hw; go_simp⟩) hHeld ?_
                simp only [PS]
                refine TK (i := 6) (v := .agg #[.bool false, .int .i64 (2 + (q : Int)), .string pP]) rfl (Or.inl ⟨by rfl, fun w hw => by obtain ⟨z0, z1, z2⟩ := hw; go_simp⟩) hHeld ?_
                simp only [PS]
                refine wpAnyH_ready (rs := [7, 9]) (by kernel_rfl) (by simp) ?_
                refine AllReadyH.cons rfl (fun Kq hKq => ?_) (AllReadyH.cons rfl (fun Kq hKq => ?_) AllReadyH.nil)
                · obtain ⟨u0, e_u0⟩ : ∃ x, x = t9.drew := ⟨_, rfl⟩
                  rw [← e_u0]
                  have hA0 : Below t9.heap.size t9 u0 := by rw [e_u0]; exact (Below.refl _ _).drew
                  clear e_u0
                  go_simp
                  have hb_1 := below_nw u0 (.cells #[.bool false, .int .i64 (2 + (q : Int)), .string pP] 35)
                  have rO := row_new u0 #[.bool false, .int .i64 (2 + (q : Int)), .string pP] 35
                  obtain ⟨u1, e_u1⟩ : ∃ x, x = u0.alloc (.cells #[.bool false, .int .i64 (2 + (q : Int)), .string pP] 35) := ⟨_, rfl⟩
                  obtain ⟨OB, e_OB⟩ : ∃ x, x = u0.heap.size := ⟨_, rfl⟩
                  rw [← e_u1]
                  try rw [← e_OB]
                  rw [← e_u1] at hb_1 rO
                  rw [← e_OB] at rO
                  have hA1 := hA0.trans (hb_1.mono hA0.size)
                  have l_OB : t9.heap.size ≤ OB := by rw [e_OB]; exact hA0.size
                  have E_OB := hid e_OB
                  clear e_u1
                  clear e_OB
                  refine hKq.out _ _ (HK.out _ hA1) (fun hHd1 => ?_)
                  clear hKq Kq
                  try simp only [PS]
                  refine wpAnyH_ready (rs := [8, 9]) (by kernel_rfl) (by simp) ?_
                  refine AllReadyH.cons rfl (fun Kq hKq => ?_) (AllReadyH.cons rfl (fun Kq hKq => ?_) AllReadyH.nil)
                  · refine step_call (by rfl) 13 #[diskV a0 100 c0 a1 q c1, .slice (some ⟨OB, 0, none⟩) 1 1, .int .i64 1] (by go_simp) (pf_one a0 c0 a1 c1 (laidW PP) q q1 (2 + (q : Int), pP) OB 1 u1 (HDK.out.below hA1) HWq.out HQ1.out FF.out.w0 FF.out.wp rO (by decide)) ?_
                    rintro e u2 ⟨x0, y0, x1, y1, rfl, dk1, j1, j2, hb_2⟩
                    refine ⟨_, rfl, ?_⟩
                    have hA2 := hA1.trans (hb_2.mono hA1.size)
                    refine hKq.out _ _ (HK.out _ hA2) (fun hHd2 => ?_)
                    clear hKq Kq
                    try simp only [PS]
                    refine wpAnyH_ready (rs := [9]) (by kernel_rfl) (by simp) ?_
                    refine AllReadyH.cons rfl (fun Kq hKq => ?_) AllReadyH.nil
                    have n1' : ∀ g, blk x0 100 = some g → g < u2.heap.size := dk1.s.lt 100 (fun _ => strs_ne (by rw [lgS_len]; omega))
                    have n2' : ∀ g, blk x1 q1 = some g → g < u2.heap.size := dk1.p.lt _ (fun _ => wcells_ne (by simp))
                    go_simp
                    have hb_3 := below_nw u2 (.cells #[.slice none 0 0, .slice none 0 0] 31)
                    have rX := row_new u2 #[.slice none 0 0, .slice none 0 0] 31
                    obtain ⟨u3, e_u3⟩ : ∃ x, x = u2.alloc (.cells #[.slice none 0 0, .slice none 0 0] 31) := ⟨_, rfl⟩
                    obtain ⟨XB, e_XB⟩ : ∃ x, x = u2.heap.size := ⟨_, rfl⟩
                    rw [← e_u3]
                    try rw [← e_XB]
                    rw [← e_u3] at hb_3 rX
                    rw [← e_XB] at rX
                    have hA3 := hA2.trans (hb_3.mono hA2.size)
                    have l_XB : t9.heap.size ≤ XB := by rw [e_XB]; exact hA2.size
                    have dk1 := dk1.below hb_3
                    have E_XB := hid e_XB
                    clear e_u3
                    clear e_XB
                    have m1 : ∀ g, blk x0 100 = some g → g ≠ XB := fun g hg => by have := n1' g hg; have := E_XB.out; omega
                    have m2 : ∀ g, blk x1 q1 = some g → g ≠ XB := fun g hg => by have := n2' g hg; have := E_XB.out; omega
                    refine hKq.out _ _ (HK.out _ hA3) (fun hHd3 => ?_)
                    clear hKq Kq
                    try simp only [PS]
                    refine wpAnyH_ready (rs := [10]) (by kernel_rfl) (by simp) ?_
                    refine AllReadyH.cons rfl (fun Kq hKq => ?_) AllReadyH.nil
                    have z0 := rX.cell 0 _ rfl
                    have z1 := rX.cell 1 _ rfl
                    have zf0 := rX.froz 0 (by simp)
                    have zf1 := rX.froz 1 (by simp)
                    have zl := rX.lt
                    go_simp
                    have hS : Below t9.heap.size t9 ((u3.setCell ⟨XB, 0, none⟩ (.slice x0 100 y0)).setCell ⟨XB, 1, none⟩ (.slice x1 q1 y1)) := ((hA3.setCell l_XB _).setCell l_XB _)
                    have rX' : Row ((u3.setCell ⟨XB, 0, none⟩ (.slice x0 100 y0)).setCell ⟨XB, 1, none⟩ (.slice x1 q1 y1)) XB [.slice x0 100 y0, .slice x1 q1 y1] := ((rX.set 0 (by simp) _).set 1 (by simp) _)
                    have d1' : LgD ((u3.setCell ⟨XB, 0, none⟩ (.slice x0 100 y0)).setCell ⟨XB, 1, none⟩ (.slice x1 q1 y1)) x0 x1 (laidW PP ++ [(2 + (q : Int), pP)]) := ((dk1.set (q := q1) (by rw [List.length_append, HWq.out]; exact HQ1.out) m1 m2 _).set (q := q1) (by rw [List.length_append, HWq.out]; exact HQ1.out) m1 m2 _)
                    refine hKq.out _ _ (HK.out _ hS) (fun hHd4 => ?_)
                    clear hKq Kq
                    try simp only [PS]
                    refine wpAnyH_done (by kernel_rfl) ?_ _
                    go_wp2_with fail
                    go_meet
                    exact ⟨XB, x0, y0, x1, y1, rfl, rX', d1', hS⟩
                  · go_simp
                    have hb_2 := below_nw u1 (.cells #[.slice none 0 0, .slice none 0 0] 31)
                    have rX := row_new u1 #[.slice none 0 0, .slice none 0 0] 31
                    obtain ⟨u2, e_u2⟩ : ∃ x, x = u1.alloc (.cells #[.slice none 0 0, .slice none 0 0] 31) := ⟨_, rfl⟩
                    obtain ⟨XB, e_XB⟩ : ∃ x, x = u1.heap.size := ⟨_, rfl⟩
                    rw [← e_u2]
                    try rw [← e_XB]
                    rw [← e_u2] at hb_2 rX
                    rw [← e_XB] at rX
                    have hA2 := hA1.trans (hb_2.mono hA1.size)
                    have l_XB : t9.heap.size ≤ XB := by rw [e_XB]; exact hA1.size
                    have rO := rO.below hb_2
                    have E_XB := hid e_XB
                    clear e_u2
                    clear e_XB
                    refine hKq.out _ _ (HK.out _ hA2) (fun hHd5 => ?_)
                    clear hKq Kq
                    try simp only [PS]
                    refine wpAnyH_ready (rs := [8]) (by kernel_rfl) (by simp) ?_
                    refine AllReadyH.cons rfl (fun Kq hKq => ?_) AllReadyH.nil
                    have hXl := rX.lt
                    refine step_call (by rfl) 13 #[diskV a0 100 c0 a1 q c1, .slice (some ⟨OB, 0, none⟩) 1 1, .int .i64 1] (by go_simp) (pf_one a0 c0 a1 c1 (laidW PP) q q1 (2 + (q : Int), pP) OB 1 u2 (HDK.out.below hA2) HWq.out HQ1.out FF.out.w0 FF.out.wp rO (by decide)) ?_
                    rintro e u3 ⟨x0, y0, x1, y1, rfl, dk1, j1, j2, hb_3⟩
                    refine ⟨_, rfl, ?_⟩
                    have hA3 := hA2.trans (hb_3.mono hA2.size)
                    have rX := rX.below hb_3
                    have m1 : ∀ g, blk x0 100 = some g → g ≠ XB := fun g hg => by have := j1 g hg; have := hXl; omega
                    have m2 : ∀ g, blk x1 q1 = some g → g ≠ XB := fun g hg => by have := j2 g hg; have := hXl; omega
                    refine hKq.out _ _ (HK.out _ hA3) (fun hHd6 => ?_)
                    clear hKq Kq
                    try simp only [PS]
                    refine wpAnyH_ready (rs := [10]) (by kernel_rfl) (by simp) ?_
                    refine AllReadyH.cons rfl (fun Kq hKq => ?_) AllReadyH.nil
                    have z0 := rX.cell 0 _ rfl
                    have z1 := rX.cell 1 _ rfl
                    have zf0 := rX.froz 0 (by simp)
                    have zf1 := rX.froz 1 (by simp)
                    have zl := rX.lt
                    go_simp
                    have hS : Below t9.heap.size t9 ((u3.setCell ⟨XB, 0, none⟩ (.slice x0 100 y0)).setCell ⟨XB, 1, none⟩ (.slice x1 q1 y1)) := ((hA3.setCell l_XB _).setCell l_XB _)
                    have rX' : Row ((u3.setCell ⟨XB, 0, none⟩ (.slice x0 100 y0)).setCell ⟨XB, 1, none⟩ (.slice x1 q1 y1)) XB [.slice x0 100 y0, .slice x1 q1 y1] := ((rX.set 0 (by simp) _).set 1 (by simp) _)
                    have d1' : LgD ((u3.setCell ⟨XB, 0, none⟩ (.slice x0 100 y0)).setCell ⟨XB, 1, none⟩ (.slice x1 q1 y1)) x0 x1 (laidW PP ++ [(2 + (q : Int), pP)]) := ((dk1.set (q := q1) (by rw [List.length_append, HWq.out]; exact HQ1.out) m1 m2 _).set (q := q1) (by rw [List.length_append, HWq.out]; exact HQ1.out) m1 m2 _)
                    refine hKq.out _ _ (HK.out _ hS) (fun hHd7 => ?_)
                    clear hKq Kq
                    try simp only [PS]
                    refine wpAnyH_done (by kernel_rfl) ?_ _
                    go_wp2_with fail
                    go_meet
                    exact ⟨XB, x0, y0, x1, y1, rfl, rX', d1', hS⟩
                · obtain ⟨u0, e_u0⟩ : ∃ x, x = t9.drew := ⟨_, rfl⟩
                  rw [← e_u0]
                  have hA0 : Below t9.heap.size t9 u0 := by rw [e_u0]; exact (Below.refl _ _).drew
                  clear e_u0
                  go_simp
                  have hb_1 := below_nw u0 (.cells #[.slice none 0 0, .slice none 0 0] 31)
                  have rX := row_new u0 #[.slice none 0 0, .slice none 0 0] 31
                  obtain ⟨u1, e_u1⟩ : ∃ x, x = u0.alloc (.cells #[.slice none 0 0, .slice none 0 0] 31) := ⟨_, rfl⟩
                  obtain ⟨XB, e_XB⟩ : ∃ x, x = u0.heap.size := ⟨_, rfl⟩
                  rw [← e_u1]
                  try rw [← e_XB]
                  rw [← e_u1] at hb_1 rX
                  rw [← e_XB] at rX
                  have hA1 := hA0.trans (hb_1.mono hA0.size)
                  have l_XB : t9.heap.size ≤ XB := by rw [e_XB]; exact hA0.size
                  have E_XB := hid e_XB
                  clear e_u1
                  clear e_XB
                  refine hKq.out _ _ (HK.out _ hA1) (fun hHd8 => ?_)
                  clear hKq Kq
                  try simp only [PS]
                  refine wpAnyH_ready (rs := [7]) (by kernel_rfl) (by simp) ?_
                  refine AllReadyH.cons rfl (fun Kq hKq => ?_) AllReadyH.nil
                  go_simp
                  have hb_2 := below_nw u1 (.cells #[.bool false, .int .i64 (2 + (q : Int)), .string pP] 35)
                  have rO := row_new u1 #[.bool false, .int .i64 (2 + (q : Int)), .string pP] 35
                  obtain ⟨u2, e_u2⟩ : ∃ x, x = u1.alloc (.cells #[.bool false, .int .i64 (2 + (q : Int)), .string pP] 35) := ⟨_, rfl⟩
                  obtain ⟨OB, e_OB⟩ : ∃ x, x = u1.heap.size := ⟨_, rfl⟩
                  rw [← e_u2]
                  try rw [← e_OB]
                  rw [← e_u2] at hb_2 rO
                  rw [← e_OB] at rO
                  have hA2 := hA1.trans (hb_2.mono hA1.size)
                  have l_OB : t9.heap.size ≤ OB := by rw [e_OB]; exact hA1.size
                  have rX := rX.below hb_2
                  have E_OB := hid e_OB
                  clear e_u2
                  clear e_OB
                  refine hKq.out _ _ (HK.out _ hA2) (fun hHd9 => ?_)
                  clear hKq Kq
                  try simp only [PS]
                  refine wpAnyH_ready (rs := [8]) (by kernel_rfl) (by simp) ?_
                  refine AllReadyH.cons rfl (fun Kq hKq => ?_) AllReadyH.nil
                  have hXl := rX.lt
                  refine step_call (by rfl) 13 #[diskV a0 100 c0 a1 q c1, .slice (some ⟨OB, 0, none⟩) 1 1, .int .i64 1] (by go_simp) (pf_one a0 c0 a1 c1 (laidW PP) q q1 (2 + (q : Int), pP) OB 1 u2 (HDK.out.below hA2) HWq.out HQ1.out FF.out.w0 FF.out.wp rO (by decide)) ?_
                  rintro e u3 ⟨x0, y0, x1, y1, rfl, dk1, j1, j2, hb_3⟩
                  refine ⟨_, rfl, ?_⟩
                  have hA3 := hA2.trans (hb_3.mono hA2.size)
                  have rX := rX.below hb_3
                  have m1 : ∀ g, blk x0 100 = some g → g ≠ XB := fun g hg => by have := j1 g hg; have := hXl; omega
                  have m2 : ∀ g, blk x1 q1 = some g → g ≠ XB := fun g hg => by have := j2 g hg; have := hXl; omega
                  refine hKq.out _ _ (HK.out _ hA3) (fun hHd10 => ?_)
                  clear hKq Kq
                  try simp only [PS]
                  refine wpAnyH_ready (rs := [10]) (by kernel_rfl) (by simp) ?_
                  refine AllReadyH.cons rfl (fun Kq hKq => ?_) AllReadyH.nil
                  have z0 := rX.cell 0 _ rfl
                  have z1 := rX.cell 1 _ rfl
                  have zf0 := rX.froz 0 (by simp)
                  have zf1 := rX.froz 1 (by simp)
                  have zl := rX.lt
                  go_simp
                  have hS : Below t9.heap.size t9 ((u3.setCell ⟨XB, 0, none⟩ (.slice x0 100 y0)).setCell ⟨XB, 1, none⟩ (.slice x1 q1 y1)) := ((hA3.setCell l_XB _).setCell l_XB _)
                  have rX' : Row ((u3.setCell ⟨XB, 0, none⟩ (.slice x0 100 y0)).setCell ⟨XB, 1, none⟩ (.slice x1 q1 y1)) XB [.slice x0 100 y0, .slice x1 q1 y1] := ((rX.set 0 (by simp) _).set 1 (by simp) _)
                  have d1' : LgD ((u3.setCell ⟨XB, 0, none⟩ (.slice x0 100 y0)).setCell ⟨XB, 1, none⟩ (.slice x1 q1 y1)) x0 x1 (laidW PP ++ [(2 + (q : Int), pP)]) := ((dk1.set (q := q1) (by rw [List.length_append, HWq.out]; exact HQ1.out) m1 m2 _).set (q := q1) (by rw [List.length_append, HWq.out]; exact HQ1.out) m1 m2 _)
                  refine hKq.out _ _ (HK.out _ hS) (fun hHd11 => ?_)
                  clear hKq Kq
                  try simp only [PS]
                  refine wpAnyH_done (by kernel_rfl) ?_ _
                  go_wp2_with fail
                  go_meet
                  exact ⟨XB, x0, y0, x1, y1, rfl, rX', d1', hS⟩
              case rest =>
                obtain ⟨X20, ad0, cd0, ad1, cd1, rfl, rX20, dk2, hbt⟩ := hcut
                clear cL
                have rB := rB.below hbt
                have dk := dk.below hbt
                have rX16 := rX16.below hbt
                have s16 := s16.below hbt
                have rX17 := rX17.below hbt
                have s17 := s17.below hbt
                have s18 := s18.below hbt
                have rX18 := rX18.below hbt
                have bL := bL.trans (hbt.mono bL.size)
                have be0 := be0.trans (hbt.mono be0.size)
                clear hbt
                have HW3 : Hid ((laidW PP ++ [(2 + (q : Int), pP)]).length = q1) := hid (FF.out.q3.trans HQ1.out)
                go_wp2_with fail
                refine (FF.out.cx _).mono ?_
                rintro e t10 ⟨a21, c21, rfl, s21, -, hbt⟩
                have rB := rB.below hbt
                have dk := dk.below hbt
                have rX16 := rX16.below hbt
                have s16 := s16.below hbt
                have rX17 := rX17.below hbt
                have s17 := s17.below hbt
                have s18 := s18.below hbt
                have rX18 := rX18.below hbt
                have rX20 := rX20.below hbt
                have dk2 := dk2.below hbt
                have bL := bL.trans (hbt.mono bL.size)
                have be0 := be0.trans (hbt.mono be0.size)
                clear hbt
                obtain ⟨b21, o21, p21, rfl, cL, HPk⟩ := s21.at (k := 0) (by simp)
                have e21 : pX = p21 := HPk.out.symm
                subst e21
                clear HPk s21
                go_upto_region 31 with fail
                go_cut [22] from 222 to 234 (fun v7 wx => ∃ (X : Nat) (ax : Option Addr) (cx : Nat), v7 = .pointer (some ⟨X, 0, none⟩) ∧ Row wx X [.slice ax 3 cx, .int .i64 (q : Int), .int .i64 (l + 1)] ∧ Strs wx ax [t, ByteArray.empty, e3] ∧ Below t10.heap.size t10 wx)
                case first =>
                  have HK : Hid (∀ W, Below t10.heap.size t10 W → W.cell? ⟨X20, 0, none⟩ = some (.slice ad0 100 cd0) ∧ W.cell? ⟨X20, 1, none⟩ = some (.slice ad1 q1 cd1) ∧ W.cell? ⟨b21, o21, none⟩ = some (.string pX)) := fun W hb => ⟨(rX20.below hb).cell 0 _ rfl, (rX20.below hb).cell 1 _ rfl, (hb.cell (p := ⟨b21, o21, none⟩) (lt_of_cell cL)).trans cL⟩
                  have HDK := hid dk2
                  have HWB := hid be0
                  refine wp_region_held_drew (S := fun w' => w'.cell? ⟨X20, 0, none⟩ = some (.slice ad0 100 cd0) ∧ w'.cell? ⟨X20, 1, none⟩ = some (.slice ad1 q1 cd1) ∧ w'.cell? ⟨b21, o21, none⟩ = some (.string pX)) (by kernel_rfl) (HK.out _ (Below.refl _ _).drew) (fun hHeld => ?_)
                  refine TK (i := 0) (v := .agg #[.slice ad0 100 cd0, .slice ad1 q1 cd1]) rfl (Or.inl ⟨by rfl, fun w hw => by obtain ⟨z0, z1, z2⟩ := hw; go_simp⟩) hHeld ?_
                  simp only [PS]
                  refine TK (i := 1) (v := .int .i64 (q : Int)) rfl (Or.inl ⟨by rfl, fun w hw => by obtain ⟨z0, z1, z2⟩ := hw; go_simp⟩) hHeld ?_
                  simp only [PS]
                  refine TK (i := 2) (v := .int .i64 (3 + (q : Int))) rfl (Or.inl ⟨by rfl, fun w hw => by obtain ⟨z0, z1, z2⟩ := hw; go_simp⟩) hHeld ?_
                  simp only [PS]
                  refine TK (i := 3) (v := .slice (some ⟨b21, o21, none⟩) 1 c21) rfl (Or.inl ⟨by rfl, fun w hw => by obtain ⟨z0, z1, z2⟩ := hw; go_simp⟩) hHeld ?_
                  simp only [PS]
                  refine TK (i := 4) (v := .pointer (some ⟨b21, o21, none⟩)) rfl (Or.inl ⟨by rfl, fun w hw => by obtain ⟨z0, z1, z2⟩ := hw; go_simp⟩) hHeld ?_
                  simp only [PS]
                  refine TK (i := 5) (v := .string pX) rfl (Or.inl ⟨by rfl, fun w hw => by obtain ⟨z0, z1, z2⟩ := hw; go_simp⟩) hHeld ?_
                  simp only [PS]
                  refine TK (i := 6) (v := .agg #[.bool false, .int .i64 (3 + (q : Int)), .string pX]) rfl (Or.inl ⟨by rfl, fun w hw => by obtain ⟨z0, z1, z2⟩ := hw; go_simp⟩) hHeld ?_
                  simp only [PS]
                  refine TK (i := 9) (v := .int .i64 f) rfl (Or.inl ⟨by rfl, fun w hw => by obtain ⟨z0, z1, z2⟩ := hw; go_simp⟩) hHeld ?_
                  simp only [PS]
                  refine TK (i := 10) (v := .int .i64 l) rfl (Or.inl ⟨by rfl, fun w hw => by obtain ⟨z0, z1, z2⟩ := hw; go_simp⟩) hHeld ?_
                  simp only [PS]
                  refine TK (i := 11) (v := .int .i64 (wn : Int)) rfl (Or.inl ⟨by rfl, fun w hw => by obtain ⟨z0, z1, z2⟩ := hw; go_simp⟩) hHeld ?_
                  simp only [PS]
                  refine wpAnyH_ready (rs := [7, 13]) (by kernel_rfl) (by simp) ?_
                  refine AllReadyH.cons rfl (fun Kq hKq => ?_) (AllReadyH.cons rfl (fun Kq hKq => ?_) AllReadyH.nil)
                  · obtain ⟨u0, e_u0⟩ : ∃ x, x = t10.drew := ⟨_, rfl⟩
                    rw [← e_u0]
                    have hA0 : Below t10.heap.size t10 u0 := by rw [e_u0]; exact (Below.refl _ _).drew
                    clear e_u0
                    go_simp
                    have hb_1 := below_nw u0 (.cells #[.bool false, .int .i64 (3 + (q : Int)), .string pX] 35)
                    have rO := row_new u0 #[.bool false, .int .i64 (3 + (q : Int)), .string pX] 35
                    obtain ⟨u1, e_u1⟩ : ∃ x, x = u0.alloc (.cells #[.bool false, .int .i64 (3 + (q : Int)), .string pX] 35) := ⟨_, rfl⟩
                    obtain ⟨OB, e_OB⟩ : ∃ x, x = u0.heap.size := ⟨_, rfl⟩
                    rw [← e_u1]
                    try rw [← e_OB]
                    rw [← e_u1] at hb_1 rO
                    rw [← e_OB] at rO
                    have hA1 := hA0.trans (hb_1.mono hA0.size)
                    have l_OB : t10.heap.size ≤ OB := by rw [e_OB]; exact hA0.size
                    have E_OB := hid e_OB
                    clear e_u1
                    clear e_OB
                    refine hKq.out _ _ (HK.out _ hA1) (fun hHd1 => ?_)
                    clear hKq Kq
                    try simp only [PS]
                    refine wpAnyH_ready (rs := [8, 13]) (by kernel_rfl) (by simp) ?_
                    refine AllReadyH.cons rfl (fun Kq hKq => ?_) (AllReadyH.cons rfl (fun Kq hKq => ?_) AllReadyH.nil)
                    · refine step_call (by rfl) 13 #[diskV ad0 100 cd0 ad1 q1 cd1, .slice (some ⟨OB, 0, none⟩) 1 1, .int .i64 1] (by go_simp) (pf_one ad0 cd0 ad1 cd1 (laidW PP ++ [(2 + (q : Int), pP)]) q1 q2 (3 + (q : Int), pX) OB 1 u1 (HDK.out.below hA1) HW3.out HQ2.out FF.out.wp FF.out.wu rO (by decide)) ?_
                      rintro e u2 ⟨x0, y0, x1, y1, rfl, dk1, j1, j2, hb_2⟩
                      refine ⟨_, rfl, ?_⟩
                      have hA2 := hA1.trans (hb_2.mono hA1.size)
                      refine hKq.out _ _ (HK.out _ hA2) (fun hHd2 => ?_)
                      clear hKq Kq
                      try simp only [PS]
                      refine wpAnyH_ready (rs := [12, 13]) (by kernel_rfl) (by simp) ?_
                      refine AllReadyH.cons rfl (fun Kq hKq => ?_) (AllReadyH.cons rfl (fun Kq hKq => ?_) AllReadyH.nil)
                      · refine step_call (by rfl) 14 #[diskV x0 100 y0 x1 q2 y1, .int .i64 2, .int .i64 90, .int .i64 f, .int .i64 l, .int .i64 (wn : Int)] (by go_simp) (HSC.out x0 y0 x1 y1 _ q2 90 f [t, ByteArray.empty, e3] 3 (q : Int) (l + 1) u2 (HWB.out.trans (hA2.mono HWB.out.size)) dk1 (by rw [List.length_append, HW3.out]; exact HQ2.out) FF.out.wu (by decide) FF.out.ff FF.out.su rfl) ?_
                        rintro e u3 ⟨ax, cx, rfl, sx, gx, hb_3⟩
                        refine ⟨_, rfl, ?_⟩
                        have hA3 := hA2.trans (hb_3.mono hA2.size)
                        refine hKq.out _ _ (HK.out _ hA3) (fun hHd3 => ?_)
                        clear hKq Kq
                        try simp only [PS]
                        refine wpAnyH_ready (rs := [13]) (by kernel_rfl) (by simp) ?_
                        refine AllReadyH.cons rfl (fun Kq hKq => ?_) AllReadyH.nil
                        have gX0 : ∀ g o, ax = some ⟨g, o, none⟩ → g < u3.heap.size := fun g o e => strs_lt sx (by simp) e
                        go_simp
                        have hb_4 := below_nw u3 (.cells #[.slice none 0 0, .int .i64 0, .int .i64 0] 38)
                        have rX := row_new u3 #[.slice none 0 0, .int .i64 0, .int .i64 0] 38
                        obtain ⟨u4, e_u4⟩ : ∃ x, x = u3.alloc (.cells #[.slice none 0 0, .int .i64 0, .int .i64 0] 38) := ⟨_, rfl⟩
                        obtain ⟨XB, e_XB⟩ : ∃ x, x = u3.heap.size := ⟨_, rfl⟩
                        rw [← e_u4]
                        try rw [← e_XB]
                        rw [← e_u4] at hb_4 rX
                        rw [← e_XB] at rX
                        have hA4 := hA3.trans (hb_4.mono hA3.size)
                        have l_XB : t10.heap.size ≤ XB := by rw [e_XB]; exact hA3.size
                        have sx := sx.below hb_4
                        have E_XB := hid e_XB
                        clear e_u4
                        clear e_XB
                        have gX : ∀ g o, ax = some ⟨g, o, none⟩ → g ≠ XB := fun g o e => by have := gX0 g o e; have := E_XB.out; omega
                        refine hKq.out _ _ (HK.out _ hA4) (fun hHd4 => ?_)
                        clear hKq Kq
                        try simp only [PS]
                        refine wpAnyH_ready (rs := [14]) (by kernel_rfl) (by simp) ?_
                        refine AllReadyH.cons rfl (fun Kq hKq => ?_) AllReadyH.nil
                        have z0 := rX.cell 0 _ rfl
                        have z1 := rX.cell 1 _ rfl
                        have z2 := rX.cell 2 _ rfl
                        have zf0 := rX.froz 0 (by simp)
                        have zf1 := rX.froz 1 (by simp)
                        have zf2 := rX.froz 2 (by simp)
                        have zl := rX.lt
                        go_simp
                        have hS : Below t10.heap.size t10 (((u4.setCell ⟨XB, 0, none⟩ (.slice ax 3 cx)).setCell ⟨XB, 1, none⟩ (.int .i64 (q : Int))).setCell ⟨XB, 2, none⟩ (.int .i64 (l + 1))) := (((hA4.setCell l_XB _).setCell l_XB _).setCell l_XB _)
                        have rX' : Row (((u4.setCell ⟨XB, 0, none⟩ (.slice ax 3 cx)).setCell ⟨XB, 1, none⟩ (.int .i64 (q : Int))).setCell ⟨XB, 2, none⟩ (.int .i64 (l + 1))) XB [.slice ax 3 cx, .int .i64 (q : Int), .int .i64 (l + 1)] := (((rX.set 0 (by simp) _).set 1 (by simp) _).set 2 (by simp) _)
                        have sx' : Strs (((u4.setCell ⟨XB, 0, none⟩ (.slice ax 3 cx)).setCell ⟨XB, 1, none⟩ (.int .i64 (q : Int))).setCell ⟨XB, 2, none⟩ (.int .i64 (l + 1))) ax [t, ByteArray.empty, e3] := (strs_set (strs_set (strs_set sx gX _) gX _) gX _)
                        refine hKq.out _ _ (HK.out _ hS) (fun hHd5 => ?_)
                        clear hKq Kq
                        try simp only [PS]
                        refine wpAnyH_done (by kernel_rfl) ?_ _
                        go_wp2_with fail
                        go_meet
                        exact ⟨XB, ax, cx, rfl, rX', sx', hS⟩
                      · go_simp
                        have hb_3 := below_nw u2 (.cells #[.slice none 0 0, .int .i64 0, .int .i64 0] 38)
                        have rX := row_new u2 #[.slice none 0 0, .int .i64 0, .int .i64 0] 38
                        obtain ⟨u3, e_u3⟩ : ∃ x, x = u2.alloc (.cells #[.slice none 0 0, .int .i64 0, .int .i64 0] 38) := ⟨_, rfl⟩
                        obtain ⟨XB, e_XB⟩ : ∃ x, x = u2.heap.size := ⟨_, rfl⟩
                        rw [← e_u3]
                        try rw [← e_XB]
                        rw [← e_u3] at hb_3 rX
                        rw [← e_XB] at rX
                        have hA3 := hA2.trans (hb_3.mono hA2.size)
                        have l_XB : t10.heap.size ≤ XB := by rw [e_XB]; exact hA2.size
                        have dk1 := dk1.below hb_3
                        have E_XB := hid e_XB
                        clear e_u3
                        clear e_XB
                        refine hKq.out _ _ (HK.out _ hA3) (fun hHd6 => ?_)
                        clear hKq Kq
                        try simp only [PS]
                        refine wpAnyH_ready (rs := [12]) (by kernel_rfl) (by simp) ?_
                        refine AllReadyH.cons rfl (fun Kq hKq => ?_) AllReadyH.nil
                        have hXl := rX.lt
                        refine step_call (by rfl) 14 #[diskV x0 100 y0 x1 q2 y1, .int .i64 2, .int .i64 90, .int .i64 f, .int .i64 l, .int .i64 (wn : Int)] (by go_simp) (HSC.out x0 y0 x1 y1 _ q2 90 f [t, ByteArray.empty, e3] 3 (q : Int) (l + 1) u3 (HWB.out.trans (hA3.mono HWB.out.size)) dk1 (by rw [List.length_append, HW3.out]; exact HQ2.out) FF.out.wu (by decide) FF.out.ff FF.out.su rfl) ?_
                        rintro e u4 ⟨ax, cx, rfl, sx, gx, hb_4⟩
                        refine ⟨_, rfl, ?_⟩
                        have hA4 := hA3.trans (hb_4.mono hA3.size)
                        have rX := rX.below hb_4
                        have gX : ∀ g o, ax = some ⟨g, o, none⟩ → g ≠ XB := fun g o e => by have := gx g o e (by omega); omega
                        refine hKq.out _ _ (HK.out _ hA4) (fun hHd7 => ?_)
                        clear hKq Kq
                        try simp only [PS]
                        refine wpAnyH_ready (rs := [14]) (by kernel_rfl) (by simp) ?_
                        refine AllReadyH.cons rfl (fun Kq hKq => ?_) AllReadyH.nil
                        have z0 := rX.cell 0 _ rfl
                        have z1 := rX.cell 1 _ rfl
                        have z2 := rX.cell 2 _ rfl
                        have zf0 := rX.froz 0 (by simp)
                        have zf1 := rX.froz 1 (by simp)
                        have zf2 := rX.froz 2 (by simp)
                        have zl := rX.lt
                        go_simp
                        have hS : Below t10.heap.size t10 (((u4.setCell ⟨XB, 0, none⟩ (.slice ax 3 cx)).setCell ⟨XB, 1, none⟩ (.int .i64 (q : Int))).setCell ⟨XB, 2, none⟩ (.int .i64 (l + 1))) := (((hA4.setCell l_XB _).setCell l_XB _).setCell l_XB _)
                        have rX' : Row (((u4.setCell ⟨XB, 0, none⟩ (.slice ax 3 cx)).setCell ⟨XB, 1, none⟩ (.int .i64 (q : Int))).setCell ⟨XB, 2, none⟩ (.int .i64 (l + 1))) XB [.slice ax 3 cx, .int .i64 (q : Int), .int .i64 (l + 1)] := (((rX.set 0 (by simp) _).set 1 (by simp) _).set 2 (by simp) _)
                        have sx' : Strs (((u4.setCell ⟨XB, 0, none⟩ (.slice ax 3 cx)).setCell ⟨XB, 1, none⟩ (.int .i64 (q : Int))).setCell ⟨XB, 2, none⟩ (.int .i64 (l + 1))) ax [t, ByteArray.empty, e3] := (strs_set (strs_set (strs_set sx gX _) gX _) gX _)
                        refine hKq.out _ _ (HK.out _ hS) (fun hHd8 => ?_)
                        clear hKq Kq
                        try simp only [PS]
                        refine wpAnyH_done (by kernel_rfl) ?_ _
                        go_wp2_with fail
                        go_meet
                        exact ⟨XB, ax, cx, rfl, rX', sx', hS⟩
                    · go_simp
                      have hb_2 := below_nw u1 (.cells #[.slice none 0 0, .int .i64 0, .int .i64 0] 38)
                      have rX := row_new u1 #[.slice none 0 0, .int .i64 0, .int .i64 0] 38
                      obtain ⟨u2, e_u2⟩ : ∃ x, x = u1.alloc (.cells #[.slice none 0 0, .int .i64 0, .int .i64 0] 38) := ⟨_, rfl⟩
                      obtain ⟨XB, e_XB⟩ : ∃ x, x = u1.heap.size := ⟨_, rfl⟩
                      rw [← e_u2]
                      try rw [← e_XB]
                      rw [← e_u2] at hb_2 rX
                      rw [← e_XB] at rX
                      have hA2 := hA1.trans (hb_2.mono hA1.size)
                      have l_XB : t10.heap.size ≤ XB := by rw [e_XB]; exact hA1.size
                      have rO := rO.below hb_2
                      have E_XB := hid e_XB
                      clear e_u2
                      clear e_XB
                      refine hKq.out _ _ (HK.out _ hA2) (fun hHd9 => ?_)
                      clear hKq Kq
                      try simp only [PS]
                      refine wpAnyH_ready (rs := [8]) (by kernel_rfl) (by simp) ?_
                      refine AllReadyH.cons rfl (fun Kq hKq => ?_) AllReadyH.nil
                      refine step_call (by rfl) 13 #[diskV ad0 100 cd0 ad1 q1 cd1, .slice (some ⟨OB, 0, none⟩) 1 1, .int .i64 1] (by go_simp) (pf_one ad0 cd0 ad1 cd1 (laidW PP ++ [(2 + (q : Int), pP)]) q1 q2 (3 + (q : Int), pX) OB 1 u2 (HDK.out.below hA2) HW3.out HQ2.out FF.out.wp FF.out.wu rO (by decide)) ?_
                      rintro e u3 ⟨x0, y0, x1, y1, rfl, dk1, j1, j2, hb_3⟩
                      refine ⟨_, rfl, ?_⟩
                      have hA3 := hA2.trans (hb_3.mono hA2.size)
                      have rX := rX.below hb_3
                      refine hKq.out _ _ (HK.out _ hA3) (fun hHd10 => ?_)
                      clear hKq Kq
                      try simp only [PS]
                      refine wpAnyH_ready (rs := [12]) (by kernel_rfl) (by simp) ?_
                      refine AllReadyH.cons rfl (fun Kq hKq => ?_) AllReadyH.nil
                      have hXl := rX.lt
                      refine step_call (by rfl) 14 #[diskV x0 100 y0 x1 q2 y1, .int .i64 2, .int .i64 90, .int .i64 f, .int .i64 l, .int .i64 (wn : Int)] (by go_simp) (HSC.out x0 y0 x1 y1 _ q2 90 f [t, ByteArray.empty, e3] 3 (q : Int) (l + 1) u3 (HWB.out.trans (hA3.mono HWB.out.size)) dk1 (by rw [List.length_append, HW3.out]; exact HQ2.out) FF.out.wu (by decide) FF.out.ff FF.out.su rfl) ?_
                      rintro e u4 ⟨ax, cx, rfl, sx, gx, hb_4⟩
                      refine ⟨_, rfl, ?_⟩
                      have hA4 := hA3.trans (hb_4.mono hA3.size)
                      have rX := rX.below hb_4
                      have gX : ∀ g o, ax = some ⟨g, o, none⟩ → g ≠ XB := fun g o e => by have := gx g o e (by omega); omega
                      refine hKq.out _ _ (HK.out _ hA4) (fun hHd11 => ?_)
                      clear hKq Kq
                      try simp only [PS]
                      refine wpAnyH_ready (rs := [14]) (by kernel_rfl) (by simp) ?_
                      refine AllReadyH.cons rfl (fun Kq hKq => ?_) AllReadyH.nil
                      have z0 := rX.cell 0 _ rfl
                      have z1 := rX.cell 1 _ rfl
                      have z2 := rX.cell 2 _ rfl
                      have zf0 := rX.froz 0 (by simp)
                      have zf1 := rX.froz 1 (by simp)
                      have zf2 := rX.froz 2 (by simp)
                      have zl := rX.lt
                      go_simp
                      have hS : Below t10.heap.size t10 (((u4.setCell ⟨XB, 0, none⟩ (.slice ax 3 cx)).setCell ⟨XB, 1, none⟩ (.int .i64 (q : Int))).setCell ⟨XB, 2, none⟩ (.int .i64 (l + 1))) := (((hA4.setCell l_XB _).setCell l_XB _).setCell l_XB _)
                      have rX' : Row (((u4.setCell ⟨XB, 0, none⟩ (.slice ax 3 cx)).setCell ⟨XB, 1, none⟩ (.int .i64 (q : Int))).setCell ⟨XB, 2, none⟩ (.int .i64 (l + 1))) XB [.slice ax 3 cx, .int .i64 (q : Int), .int .i64 (l + 1)] := (((rX.set 0 (by simp) _).set 1 (by simp) _).set 2 (by simp) _)
                      have sx' : Strs (((u4.setCell ⟨XB, 0, none⟩ (.slice ax 3 cx)).setCell ⟨XB, 1, none⟩ (.int .i64 (q : Int))).setCell ⟨XB, 2, none⟩ (.int .i64 (l + 1))) ax [t, ByteArray.empty, e3] := (strs_set (strs_set (strs_set sx gX _) gX _) gX _)
                      refine hKq.out _ _ (HK.out _ hS) (fun hHd12 => ?_)
                      clear hKq Kq
                      try simp only [PS]
                      refine wpAnyH_done (by kernel_rfl) ?_ _
                      go_wp2_with fail
                      go_meet
                      exact ⟨XB, ax, cx, rfl, rX', sx', hS⟩
                  · obtain ⟨u0, e_u0⟩ : ∃ x, x = t10.drew := ⟨_, rfl⟩
                    rw [← e_u0]
                    have hA0 : Below t10.heap.size t10 u0 := by rw [e_u0]; exact (Below.refl _ _).drew
                    clear e_u0
                    go_simp
                    have hb_1 := below_nw u0 (.cells #[.slice none 0 0, .int .i64 0, .int .i64 0] 38)
                    have rX := row_new u0 #[.slice none 0 0, .int .i64 0, .int .i64 0] 38
                    obtain ⟨u1, e_u1⟩ : ∃ x, x = u0.alloc (.cells #[.slice none 0 0, .int .i64 0, .int .i64 0] 38) := ⟨_, rfl⟩
                    obtain ⟨XB, e_XB⟩ : ∃ x, x = u0.heap.size := ⟨_, rfl⟩
                    rw [← e_u1]
                    try rw [← e_XB]
                    rw [← e_u1] at hb_1 rX
                    rw [← e_XB] at rX
                    have hA1 := hA0.trans (hb_1.mono hA0.size)
                    have l_XB : t10.heap.size ≤ XB := by rw [e_XB]; exact hA0.size
                    have E_XB := hid e_XB
                    clear e_u1
                    clear e_XB
                    refine hKq.out _ _ (HK.out _ hA1) (fun hHd13 => ?_)
                    clear hKq Kq
                    try simp only [PS]
                    refine wpAnyH_ready (rs := [7]) (by kernel_rfl) (by simp) ?_
                    refine AllReadyH.cons rfl (fun Kq hKq => ?_) AllReadyH.nil
                    go_simp
                    have hb_2 := below_nw u1 (.cells #[.bool false, .int .i64 (3 + (q : Int)), .string pX] 35)
                    have rO := row_new u1 #[.bool false, .int .i64 (3 + (q : Int)), .string pX] 35
                    obtain ⟨u2, e_u2⟩ : ∃ x, x = u1.alloc (.cells #[.bool false, .int .i64 (3 + (q : Int)), .string pX] 35) := ⟨_, rfl⟩
                    obtain ⟨OB, e_OB⟩ : ∃ x, x = u1.heap.size := ⟨_, rfl⟩
                    rw [← e_u2]
                    try rw [← e_OB]
                    rw [← e_u2] at hb_2 rO
                    rw [← e_OB] at rO
                    have hA2 := hA1.trans (hb_2.mono hA1.size)
                    have l_OB : t10.heap.size ≤ OB := by rw [e_OB]; exact hA1.size
                    have rX := rX.below hb_2
                    have E_OB := hid e_OB
                    clear e_u2
                    clear e_OB
                    refine hKq.out _ _ (HK.out _ hA2) (fun hHd14 => ?_)
                    clear hKq Kq
                    try simp only [PS]
                    refine wpAnyH_ready (rs := [8]) (by kernel_rfl) (by simp) ?_
                    refine AllReadyH.cons rfl (fun Kq hKq => ?_) AllReadyH.nil
                    refine step_call (by rfl) 13 #[diskV ad0 100 cd0 ad1 q1 cd1, .slice (some ⟨OB, 0, none⟩) 1 1, .int .i64 1] (by go_simp) (pf_one ad0 cd0 ad1 cd1 (laidW PP ++ [(2 + (q : Int), pP)]) q1 q2 (3 + (q : Int), pX) OB 1 u2 (HDK.out.below hA2) HW3.out HQ2.out FF.out.wp FF.out.wu rO (by decide)) ?_
                    rintro e u3 ⟨x0, y0, x1, y1, rfl, dk1, j1, j2, hb_3⟩
                    refine ⟨_, rfl, ?_⟩
                    have hA3 := hA2.trans (hb_3.mono hA2.size)
                    have rX := rX.below hb_3
                    refine hKq.out _ _ (HK.out _ hA3) (fun hHd15 => ?_)
                    clear hKq Kq
                    try simp only [PS]
                    refine wpAnyH_ready (rs := [12]) (by kernel_rfl) (by simp) ?_
                    refine AllReadyH.cons rfl (fun Kq hKq => ?_) AllReadyH.nil
                    have hXl := rX.lt
                    refine step_call (by rfl) 14 #[diskV x0 100 y0 x1 q2 y1, .int .i64 2, .int .i64 90, .int .i64 f, .int .i64 l, .int .i64 (wn : Int)] (by go_simp) (HSC.out x0 y0 x1 y1 _ q2 90 f [t, ByteArray.empty, e3] 3 (q : Int) (l + 1) u3 (HWB.out.trans (hA3.mono HWB.out.size)) dk1 (by rw [List.length_append, HW3.out]; exact HQ2.out) FF.out.wu (by decide) FF.out.ff FF.out.su rfl) ?_
                    rintro e u4 ⟨ax, cx, rfl, sx, gx, hb_4⟩
                    refine ⟨_, rfl, ?_⟩
                    have hA4 := hA3.trans (hb_4.mono hA3.size)
                    have rX := rX.below hb_4
                    have gX : ∀ g o, ax = some ⟨g, o, none⟩ → g ≠ XB := fun g o e => by have := gx g o e (by omega); omega
                    refine hKq.out _ _ (HK.out _ hA4) (fun hHd16 => ?_)
                    clear hKq Kq
                    try simp only [PS]
                    refine wpAnyH_ready (rs := [14]) (by kernel_rfl) (by simp) ?_
                    refine AllReadyH.cons rfl (fun Kq hKq => ?_) AllReadyH.nil
                    have z0 := rX.cell 0 _ rfl
                    have z1 := rX.cell 1 _ rfl
                    have z2 := rX.cell 2 _ rfl
                    have zf0 := rX.froz 0 (by simp)
                    have zf1 := rX.froz 1 (by simp)
                    have zf2 := rX.froz 2 (by simp)
                    have zl := rX.lt
                    go_simp
                    have hS : Below t10.heap.size t10 (((u4.setCell ⟨XB, 0, none⟩ (.slice ax 3 cx)).setCell ⟨XB, 1, none⟩ (.int .i64 (q : Int))).setCell ⟨XB, 2, none⟩ (.int .i64 (l + 1))) := (((hA4.setCell l_XB _).setCell l_XB _).setCell l_XB _)
                    have rX' : Row (((u4.setCell ⟨XB, 0, none⟩ (.slice ax 3 cx)).setCell ⟨XB, 1, none⟩ (.int .i64 (q : Int))).setCell ⟨XB, 2, none⟩ (.int .i64 (l + 1))) XB [.slice ax 3 cx, .int .i64 (q : Int), .int .i64 (l + 1)] := (((rX.set 0 (by simp) _).set 1 (by simp) _).set 2 (by simp) _)
                    have sx' : Strs (((u4.setCell ⟨XB, 0, none⟩ (.slice ax 3 cx)).setCell ⟨XB, 1, none⟩ (.int .i64 (q : Int))).setCell ⟨XB, 2, none⟩ (.int .i64 (l + 1))) ax [t, ByteArray.empty, e3] := (strs_set (strs_set (strs_set sx gX _) gX _) gX _)
                    refine hKq.out _ _ (HK.out _ hS) (fun hHd17 => ?_)
                    clear hKq Kq
                    try simp only [PS]
                    refine wpAnyH_done (by kernel_rfl) ?_ _
                    go_wp2_with fail
                    go_meet
                    exact ⟨XB, ax, cx, rfl, rX', sx', hS⟩
                case rest =>
                  obtain ⟨X22, a22, c22, rfl, rX22, s22, hbt⟩ := hcut
                  clear cL
                  have rB := rB.below hbt
                  have dk := dk.below hbt
                  have rX16 := rX16.below hbt
                  have s16 := s16.below hbt
                  have rX17 := rX17.below hbt
                  have s17 := s17.below hbt
                  have s18 := s18.below hbt
                  have rX18 := rX18.below hbt
                  have rX20 := rX20.below hbt
                  have dk2 := dk2.below hbt
                  have bL := bL.trans (hbt.mono bL.size)
                  have be0 := be0.trans (hbt.mono be0.size)
                  clear hbt
                  go_wp2_with fail
                  refine (FF.out.fb _).mono ?_
                  rintro e t11 ⟨rfl, hbt⟩
                  have rB := rB.below hbt
                  have dk := dk.below hbt
                  have rX16 := rX16.below hbt
                  have s16 := s16.below hbt
                  have rX17 := rX17.below hbt
                  have s17 := s17.below hbt
                  have s18 := s18.below hbt
                  have rX18 := rX18.below hbt
                  have rX20 := rX20.below hbt
                  have dk2 := dk2.below hbt
                  have rX22 := rX22.below hbt
                  have s22 := s22.below hbt
                  have bL := bL.trans (hbt.mono bL.size)
                  have be0 := be0.trans (hbt.mono be0.size)
                  clear hbt
                  have b0 := rX20.cell 0 _ rfl
                  have b1 := rX20.cell 1 _ rfl
                  have bl := rX20.lt
                  go_wp2_with fail
                  clear b0 b1 bl
                  have rO := row_new t11 #[.bool false, .int .i64 (3 + (q : Int)), .string pB] 35
                  have hbn := below_nw t11 (.cells #[.bool false, .int .i64 (3 + (q : Int)), .string pB] 35)
                  obtain ⟨t12, e_t12⟩ : ∃ x, x = t11.alloc (.cells #[.bool false, .int .i64 (3 + (q : Int)), .string pB] 35) := ⟨_, rfl⟩
                  rw [← e_t12] at rO hbn
                  rw [← e_t12]
                  clear e_t12
                  have rB := rB.below hbn
                  have dk := dk.below hbn
                  have rX16 := rX16.below hbn
                  have s16 := s16.below hbn
                  have rX17 := rX17.below hbn
                  have s17 := s17.below hbn
                  have s18 := s18.below hbn
                  have rX18 := rX18.below hbn
                  have rX20 := rX20.below hbn
                  have dk2 := dk2.below hbn
                  have rX22 := rX22.below hbn
                  have s22 := s22.below hbn
                  have bL := bL.trans (hbn.mono bL.size)
                  have be0 := be0.trans (hbn.mono be0.size)
                  clear hbn
                  refine (pf_one ad0 cd0 ad1 cd1 (laidW PP ++ [(2 + (q : Int), pP)]) q1 q2 (3 + (q : Int), pB) _ 1 _ dk2 HW3.out HQ2.out FF.out.wp FF.out.wv rO (by decide)).mono ?_
                  rintro e t13 ⟨x0, y0, x1, y1, rfl, dk3, -, -, hbt⟩
                  clear rO
                  have rB := rB.below hbt
                  have dk := dk.below hbt
                  have rX16 := rX16.below hbt
                  have s16 := s16.below hbt
                  have rX17 := rX17.below hbt
                  have s17 := s17.below hbt
                  have s18 := s18.below hbt
                  have rX18 := rX18.below hbt
                  have rX20 := rX20.below hbt
                  have dk2 := dk2.below hbt
                  have rX22 := rX22.below hbt
                  have s22 := s22.below hbt
                  have bL := bL.trans (hbt.mono bL.size)
                  have be0 := be0.trans (hbt.mono be0.size)
                  clear hbt
                  go_wp2_with fail
                  refine (HSC.out x0 y0 x1 y1 _ q2 90 f [t, ByteArray.empty, e3] 3 (q : Int) (l + 1) _ be0 dk3 (by rw [List.length_append, HW3.out]; exact HQ2.out) FF.out.wv (by decide) FF.out.ff FF.out.sv rfl).mono ?_
                  rintro e t14 ⟨a24, c24, rfl, s24, -, hbt⟩
                  clear dk3
                  clear dk2 rX20
                  have rB := rB.below hbt
                  have dk := dk.below hbt
                  have rX16 := rX16.below hbt
                  have s16 := s16.below hbt
                  have rX17 := rX17.below hbt
                  have s17 := s17.below hbt
                  have s18 := s18.below hbt
                  have rX18 := rX18.below hbt
                  have rX22 := rX22.below hbt
                  have s22 := s22.below hbt
                  have bL := bL.trans (hbt.mono bL.size)
                  have be0 := be0.trans (hbt.mono be0.size)
                  clear hbt
                  have rX24 := row_new t14 #[.slice a24 3 c24, .int .i64 (q : Int), .int .i64 (l + 1)] 38
                  have hbn := below_nw t14 (.cells #[.slice a24 3 c24, .int .i64 (q : Int), .int .i64 (l + 1)] 38)
                  obtain ⟨v24, e_v24⟩ : ∃ x, x = t14.alloc (.cells #[.slice a24 3 c24, .int .i64 (q : Int), .int .i64 (l + 1)] 38) := ⟨_, rfl⟩
                  obtain ⟨X24, e_X24⟩ : ∃ x, x = t14.heap.size := ⟨_, rfl⟩
                  rw [← e_v24] at hbn rX24
                  rw [← e_X24] at rX24
                  have rB := rB.below hbn
                  have dk := dk.below hbn
                  have rX16 := rX16.below hbn
                  have s16 := s16.below hbn
                  have rX17 := rX17.below hbn
                  have s17 := s17.below hbn
                  have s18 := s18.below hbn
                  have rX18 := rX18.below hbn
                  have rX22 := rX22.below hbn
                  have s22 := s22.below hbn
                  have s24 := s24.below hbn
                  have bL := bL.trans (hbn.mono bL.size)
                  have be0 := be0.trans (hbn.mono be0.size)
                  clear hbn
                  go_upto_region 34 with fail
                  rw [← e_v24, ← e_X24]
                  clear e_v24
                  clear e_X24
                  have y0 := rX24.cell 0 _ rfl
                  have y1 := rX24.cell 1 _ rfl
                  have y2 := rX24.cell 2 _ rfl
                  have yl := rX24.lt
                  have x0 := rX22.cell 0 _ rfl
                  have x1 := rX22.cell 1 _ rfl
                  have x2 := rX22.cell 2 _ rfl
                  have xl := rX22.lt
                  go_wp2_with fail
                  clear x0 x1 x2 xl
                  clear y0 y1 y2 yl
                  refine (wt_k a22 (some ⟨G, 0, none⟩) [t, ByteArray.empty, e3] 3 c22 3 _ s22 (rGs.out.below bL) rfl (by decide)).mono ?_
                  rintro e t15 ⟨rfl, hbt⟩
                  have rB := rB.below hbt
                  have dk := dk.below hbt
                  have rX16 := rX16.below hbt
                  have s16 := s16.below hbt
                  have rX17 := rX17.below hbt
                  have s17 := s17.below hbt
                  have s18 := s18.below hbt
                  have rX18 := rX18.below hbt
                  have rX22 := rX22.below hbt
                  have s24 := s24.below hbt
                  have rX24 := rX24.below hbt
                  have bL := bL.trans (hbt.mono bL.size)
                  have be0 := be0.trans (hbt.mono be0.size)
                  clear hbt
                  have y0 := rX24.cell 0 _ rfl
                  have y1 := rX24.cell 1 _ rfl
                  have y2 := rX24.cell 2 _ rfl
                  have yl := rX24.lt
                  have x0 := rX22.cell 0 _ rfl
                  have x1 := rX22.cell 1 _ rfl
                  have x2 := rX22.cell 2 _ rfl
                  have xl := rX22.lt
                  go_wp2_with fail
                  clear x0 x1 x2 xl
                  clear y0 y1 y2 yl
                  refine (wt_k a24 (some ⟨G, 0, none⟩) [t, ByteArray.empty, e3] 3 c24 3 _ s24 (rGs.out.below bL) rfl (by decide)).mono ?_
                  rintro e t16 ⟨rfl, hbt⟩
                  have rB := rB.below hbt
                  have dk := dk.below hbt
                  have rX16 := rX16.below hbt
                  have s16 := s16.below hbt
                  have rX17 := rX17.below hbt
                  have s17 := s17.below hbt
                  have s18 := s18.below hbt
                  have rX18 := rX18.below hbt
                  have rX24 := rX24.below hbt
                  have bL := bL.trans (hbt.mono bL.size)
                  have be0 := be0.trans (hbt.mono be0.size)
                  clear hbt
                  have y0 := rX24.cell 0 _ rfl
                  have y1 := rX24.cell 1 _ rfl
                  have y2 := rX24.cell 2 _ rfl
                  have yl := rX24.lt
                  go_upto_region 36 with fail
                  clear y0 y1 y2 yl
                  have HK : Hid (∀ W, Below t16.heap.size t16 W → W.cell? ⟨X16, 0, none⟩ = some (.slice a16 3 c16) ∧ W.cell? ⟨X17, 0, none⟩ = some (.slice a17 2 c17) ∧ W.cell? ⟨X17, 1, none⟩ = some (.int .i64 ((K : Int) + 1)) ∧ W.cell? ⟨X18, 0, none⟩ = some (.slice a18 2 c18) ∧ W.cell? ⟨B, 0, none⟩ = some (.slice a0 100 c0) ∧ W.cell? ⟨B, 1, none⟩ = some (.slice a1 q c1)) := fun W hb => ⟨(rX16.below hb).cell 0 _ rfl, (rX17.below hb).cell 0 _ rfl, (rX17.below hb).cell 1 _ rfl, (rX18.below hb).cell 0 _ rfl, (rB.below hb).cell 0 _ rfl, (rB.below hb).cell 1 _ rfl⟩
                  refine wp_region_held_drew (S := fun w' => w'.cell? ⟨X16, 0, none⟩ = some (.slice a16 3 c16) ∧ w'.cell? ⟨X17, 0, none⟩ = some (.slice a17 2 c17) ∧ w'.cell? ⟨X17, 1, none⟩ = some (.int .i64 ((K : Int) + 1)) ∧ w'.cell? ⟨X18, 0, none⟩ = some (.slice a18 2 c18) ∧ w'.cell? ⟨B, 0, none⟩ = some (.slice a0 100 c0) ∧ w'.cell? ⟨B, 1, none⟩ = some (.slice a1 q c1)) (by kernel_rfl) (HK.out _ (Below.refl _ _).drew) (fun hHeld => ?_)
                  refine TK (i := 0) (v := .pointer (some ⟨X16, 0, none⟩)) rfl (Or.inl ⟨by rfl, fun w hw => by obtain ⟨z0, z1, z2, z3, z4, z5⟩ := hw; go_simp⟩) hHeld ?_
                  simp only [PS]
                  refine TK (i := 1) (v := .slice a16 3 c16) rfl (Or.inl ⟨by rfl, fun w hw => by obtain ⟨z0, z1, z2, z3, z4, z5⟩ := hw; go_simp⟩) hHeld ?_
                  simp only [PS]
                  refine TK (i := 2) (v := .slice (some ⟨G, 0, none⟩) 3 3) rfl (Or.inl ⟨by rfl, fun w hw => by obtain ⟨z0, z1, z2, z3, z4, z5⟩ := hw; go_simp⟩) hHeld ?_
                  simp only [PS]
                  refine wpAnyH_ready (rs := [3]) (by kernel_rfl) (by simp) ?_
                  refine AllReadyH.cons rfl (fun Kq hKq => ?_) AllReadyH.nil
                  have hA0 : Below t16.heap.size t16 t16.drew := (Below.refl _ _).drew
                  refine step_call (by rfl) 8 #[.slice a16 3 c16, .slice (some ⟨G, 0, none⟩) 3 3] (by go_simp) (wt_k a16 (some ⟨G, 0, none⟩) [t, ByteArray.empty, e3] 3 c16 3 _ (s16.below hA0) (rGs.out.below (bL.trans (hA0.mono bL.size))) rfl (by decide)) ?_
                  rintro e z1 ⟨rfl, hbz⟩
                  refine ⟨_, rfl, ?_⟩
                  have hA1 := hA0.trans (hbz.mono hA0.size)
                  clear hbz
                  refine hKq.out _ _ (HK.out _ hA1) (fun hHd1 => ?_)
                  clear hKq Kq
                  try simp only [PS]
                  refine TK (i := 4) (v := .bool true) rfl (Or.inl ⟨by rfl, fun w hw => by obtain ⟨z0, z1, z2, z3, z4, z5⟩ := hw; go_simp⟩) hHd1 ?_
                  simp only [PS]
                  refine TK (i := 5) (v := .pointer (some ⟨X17, 0, none⟩)) rfl (Or.inl ⟨by rfl, fun w hw => by obtain ⟨z0, z1, z2, z3, z4, z5⟩ := hw; go_simp⟩) hHd1 ?_
                  simp only [PS]
                  refine TK (i := 6) (v := .slice a17 2 c17) rfl (Or.inl ⟨by rfl, fun w hw => by obtain ⟨z0, z1, z2, z3, z4, z5⟩ := hw; go_simp⟩) hHd1 ?_
                  simp only [PS]
                  refine TK (i := 7) (v := .slice (some ⟨G, 0, none⟩) 3 3) rfl (Or.inl ⟨by rfl, fun w hw => by obtain ⟨z0, z1, z2, z3, z4, z5⟩ := hw; go_simp⟩) hHd1 ?_
                  simp only [PS]
                  refine TK (i := 8) (v := .slice (some ⟨G, 0, none⟩) 2 3) rfl (Or.inl ⟨by rfl, fun w hw => by obtain ⟨z0, z1, z2, z3, z4, z5⟩ := hw; go_simp⟩) hHd1 ?_
                  simp only [PS]
                  refine wpAnyH_ready (rs := [9]) (by kernel_rfl) (by simp) ?_
                  refine AllReadyH.cons rfl (fun Kq hKq => ?_) AllReadyH.nil
                  refine step_callL (by kernel_rfl) 8 #[.slice a17 2 c17, .slice (some ⟨G, 0, none⟩) 2 3] (by go_simp) (wt_k a17 (some ⟨G, 0, none⟩) [t, ByteArray.empty] 2 c17 3 _ (s17.below hA1) (rGt.out.below (bL.trans (hA1.mono bL.size))) rfl (by decide)) ?_
                  rintro e z2 ⟨rfl, hbz⟩
                  refine ⟨_, rfl, ?_⟩
                  have hA2 := hA1.trans (hbz.mono hA1.size)
                  clear hbz
                  refine hKq.out _ _ (HK.out _ hA2) (fun hHd2 => ?_)
                  clear hKq Kq
                  try simp only [PS]
                  refine TK (i := 10) (v := .bool true) rfl (Or.inl ⟨by rfl, fun w hw => by obtain ⟨z0, z1, z2, z3, z4, z5⟩ := hw; go_simp⟩) hHd2 ?_
                  simp only [PS]
                  refine TK (i := 11) (v := .bool true) rfl (Or.inl ⟨by rfl, fun w hw => by obtain ⟨z0, z1, z2, z3, z4, z5⟩ := hw; go_simp⟩) hHd2 ?_
                  simp only [PS]
                  refine TK (i := 12) (v := .pointer (some ⟨X18, 0, none⟩)) rfl (Or.inl ⟨by rfl, fun w hw => by obtain ⟨z0, z1, z2, z3, z4, z5⟩ := hw; go_simp⟩) hHd2 ?_
                  simp only [PS]
                  refine TK (i := 13) (v := .slice a18 2 c18) rfl (Or.inl ⟨by rfl, fun w hw => by obtain ⟨z0, z1, z2, z3, z4, z5⟩ := hw; go_simp⟩) hHd2 ?_
                  simp only [PS]
                  refine TK (i := 14) (v := .slice (some ⟨G, 0, none⟩) 3 3) rfl (Or.inl ⟨by rfl, fun w hw => by obtain ⟨z0, z1, z2, z3, z4, z5⟩ := hw; go_simp⟩) hHd2 ?_
                  simp only [PS]
                  refine TK (i := 15) (v := .slice (some ⟨G, 0, none⟩) 2 3) rfl (Or.inl ⟨by rfl, fun w hw => by obtain ⟨z0, z1, z2, z3, z4, z5⟩ := hw; go_simp⟩) hHd2 ?_
                  simp only [PS]
                  refine wpAnyH_ready (rs := [16]) (by kernel_rfl) (by simp) ?_
                  refine AllReadyH.cons rfl (fun Kq hKq => ?_) AllReadyH.nil
                  refine step_callL (by kernel_rfl) 8 #[.slice a18 2 c18, .slice (some ⟨G, 0, none⟩) 2 3] (by go_simp) (wt_k a18 (some ⟨G, 0, none⟩) [t, ByteArray.empty] 2 c18 3 _ (s18.below hA2) (rGt.out.below (bL.trans (hA2.mono bL.size))) rfl (by decide)) ?_
                  rintro e z3 ⟨rfl, hbz⟩
                  refine ⟨_, rfl, ?_⟩
                  have hA3 := hA2.trans (hbz.mono hA2.size)
                  clear hbz
                  refine hKq.out _ _ (HK.out _ hA3) (fun hHd3 => ?_)
                  clear hKq Kq
                  try simp only [PS]
                  refine TK (i := 17) (v := .bool true) rfl (Or.inl ⟨by rfl, fun w hw => by obtain ⟨z0, z1, z2, z3, z4, z5⟩ := hw; go_simp⟩) hHd3 ?_
                  simp only [PS]
                  refine TK (i := 18) (v := .bool true) rfl (Or.inl ⟨by rfl, fun w hw => by obtain ⟨z0, z1, z2, z3, z4, z5⟩ := hw; go_simp⟩) hHd3 ?_
                  simp only [PS]
                  refine TK (i := 19) (v := .pointer (some ⟨X17, 1, none⟩)) rfl (Or.inl ⟨by rfl, fun w hw => by obtain ⟨z0, z1, z2, z3, z4, z5⟩ := hw; go_simp⟩) hHd3 ?_
                  simp only [PS]
                  refine TK (i := 20) (v := .int .i64 ((K : Int) + 1)) rfl (Or.inl ⟨by rfl, fun w hw => by obtain ⟨z0, z1, z2, z3, z4, z5⟩ := hw; go_simp⟩) hHd3 ?_
                  simp only [PS]
                  refine TK (i := 21) (v := .string t) rfl (Or.inl ⟨by rfl, fun w hw => by obtain ⟨z0, z1, z2, z3, z4, z5⟩ := hw; go_simp⟩) hHd3 ?_
                  simp only [PS]
                  refine TK (i := 22) (v := .int .i64 (wn : Int)) rfl (Or.inl ⟨by rfl, fun w hw => by obtain ⟨z0, z1, z2, z3, z4, z5⟩ := hw; go_simp⟩) hHd3 ?_
                  simp only [PS]
                  refine wpAnyH_ready (rs := [23]) (by kernel_rfl) (by simp) ?_
                  refine AllReadyH.cons rfl (fun Kq hKq => ?_) AllReadyH.nil
                  refine step_callL (by kernel_rfl) 11 #[.string t, .int .i64 (wn : Int)] (by go_simp) (FF.out.pg _) ?_
                  rintro e z4 ⟨rfl, hbz⟩
                  refine ⟨_, rfl, ?_⟩
                  have hA4 := hA3.trans (hbz.mono hA3.size)
                  clear hbz
                  refine hKq.out _ _ (HK.out _ hA4) (fun hHd4 => ?_)
                  clear hKq Kq
                  try simp only [PS]
                  refine TK (i := 24) (v := .int .i64 ((K : Int) + 1)) rfl (Or.inl ⟨by rfl, fun w hw => by obtain ⟨z0, z1, z2, z3, z4, z5⟩ := hw; go_simp⟩) hHd4 ?_
                  simp only [PS]
                  refine TK (i := 25) (v := .bool true) rfl (Or.inl ⟨by rfl, fun w hw => by obtain ⟨z0, z1, z2, z3, z4, z5⟩ := hw; go_simp⟩) hHd4 ?_
                  simp only [PS]
                  refine TK (i := 26) (v := .bool true) rfl (Or.inl ⟨by rfl, fun w hw => by obtain ⟨z0, z1, z2, z3, z4, z5⟩ := hw; go_simp⟩) hHd4 ?_
                  simp only [PS]
                  refine TK (i := 27) (v := .bool true) rfl (Or.inl ⟨by rfl, fun w hw => by obtain ⟨z0, z1, z2, z3, z4, z5⟩ := hw; go_simp⟩) hHd4 ?_
                  simp only [PS]
                  refine TK (i := 28) (v := .agg #[.slice a0 100 c0, .slice a1 q c1]) rfl (Or.inl ⟨by rfl, fun w hw => by obtain ⟨z0, z1, z2, z3, z4, z5⟩ := hw; go_simp⟩) hHd4 ?_
                  simp only [PS]
                  refine TK (i := 29) (v := .int .i64 f) rfl (Or.inl ⟨by rfl, fun w hw => by obtain ⟨z0, z1, z2, z3, z4, z5⟩ := hw; go_simp⟩) hHd4 ?_
                  simp only [PS]
                  refine TK (i := 30) (v := .int .i64 (f + 1)) rfl (Or.inl ⟨by rfl, fun w hw => by obtain ⟨z0, z1, z2, z3, z4, z5⟩ := hw; go_simp⟩) hHd4 ?_
                  simp only [PS]
                  refine TK (i := 31) (v := .int .i64 l) rfl (Or.inl ⟨by rfl, fun w hw => by obtain ⟨z0, z1, z2, z3, z4, z5⟩ := hw; go_simp⟩) hHd4 ?_
                  simp only [PS]
                  refine TK (i := 32) (v := .int .i64 (wn : Int)) rfl (Or.inl ⟨by rfl, fun w hw => by obtain ⟨z0, z1, z2, z3, z4, z5⟩ := hw; go_simp⟩) hHd4 ?_
                  simp only [PS]
                  refine wpAnyH_ready (rs := [33]) (by kernel_rfl) (by simp) ?_
                  refine AllReadyH.cons rfl (fun Kq hKq => ?_) AllReadyH.nil
                  refine step_callL (by kernel_rfl) 14 #[diskV a0 100 c0 a1 q c1, .int .i64 2, .int .i64 90, .int .i64 (f + 1), .int .i64 l, .int .i64 (wn : Int)] (by go_simp) (HSC.out a0 c0 a1 c1 (laidW PP) q 90 (f + 1) [] 0 0 l _ (be0.trans (hA4.mono be0.size)) (dk.below hA4) HWq.out FF.out.w0 (by decide) FF.out.fg FF.out.sl rfl) ?_
                  rintro e z5 ⟨az, cz, rfl, -, -, hbz⟩
                  refine ⟨_, rfl, ?_⟩
                  have hA5 := hA4.trans (hbz.mono hA4.size)
                  clear hbz
                  refine hKq.out _ _ (HK.out _ hA5) (fun hHd5 => ?_)
                  clear hKq Kq
                  try simp only [PS]
                  refine TK (i := 34) (v := .slice az 0 cz) rfl (Or.inl ⟨by rfl, fun w hw => by obtain ⟨z0, z1, z2, z3, z4, z5⟩ := hw; rfl⟩) hHd5 ?_
                  simp only [PS]
                  refine TK (i := 35) (v := .int .i64 0) rfl (Or.inl ⟨by rfl, fun w hw => by obtain ⟨z0, z1, z2, z3, z4, z5⟩ := hw; go_simp⟩) hHd5 ?_
                  simp only [PS]
                  refine TK (i := 36) (v := .bool true) rfl (Or.inl ⟨by rfl, fun w hw => by obtain ⟨z0, z1, z2, z3, z4, z5⟩ := hw; go_simp⟩) hHd5 ?_
                  simp only [PS]
                  refine TK (i := 37) (v := .bool true) rfl (Or.inl ⟨by rfl, fun w hw => by obtain ⟨z0, z1, z2, z3, z4, z5⟩ := hw; go_simp⟩) hHd5 ?_
                  simp only [PS]
                  refine wpAnyH_ready (rs := [38]) (by kernel_rfl) (by simp) ?_
                  refine AllReadyH.cons rfl (fun Kq hKq => ?_) AllReadyH.nil
                  go_simp
                  refine hKq.out _ _ hHd5 (fun _ => ?_)
                  clear hKq Kq
                  try simp only [PS]
                  refine wpAnyH_done (by kernel_rfl) ?_ _
                  go_wp2
                  go_ret
                  exact ⟨rfl, be0.trans (hA5.mono be0.size)⟩
    · have HNP : npages t.size wd = 0 := by unfold npages; rw [if_neg hW]
      have HP1 := hid (fun wx => pages_i t wd wx (by omega))
      have HP2 := hid (fun wx => pages_s t wd wx (by omega))
      rw [HNP] at HP1 HP2
      go_wp2_with fail
      refine (cut_i_no t l f wd _ (by omega) hW).mono ?_
      rintro e w2 ⟨pa, pc, rfl, -, -, hb2⟩
      have be2 := be1.trans (hb2.mono be1.size)
      go_wp2_with fail
      refine (cut_s_no t l f wd _ hW).mono ?_
      rintro e w3 ⟨qa, qc, rfl, -, -, hb3⟩
      have be3 := be2.trans (hb3.mono be2.size)
      clear hb2 hb3 hW
      go_wp2_with fail
      refine (w_texts pa qa [] pc qc _ (.inl rfl) (.inl rfl) (by simp)).mono ?_
      rintro e w4 ⟨rfl, hb4⟩
      have be4 := be3.trans (hb4.mono be3.size)
      go_wp2_with fail
      refine (HP1.out _).mono ?_
      rintro e w5 ⟨rfl, hb5⟩
      have be5 := be4.trans (hb5.mono be4.size)
      clear hb5
      go_wp2_with fail
      refine (HP2.out _).mono ?_
      rintro e w6 ⟨rfl, hb6⟩
      have be6 := be5.trans (hb6.mono be5.size)
      clear hb6 HP2
      go_wp2
      go_ret
      exact ⟨rfl, be6⟩
  · have hn' : 1048576 < (n : Int) := by omega
    go_enter Tryd.func3, Tryd.ntmps3
    go_wp2
    go_ret
    exact ⟨rfl, Below.refl _ _⟩
end Go.Proofs.YtnmaknnnmjfhkaeDoor
