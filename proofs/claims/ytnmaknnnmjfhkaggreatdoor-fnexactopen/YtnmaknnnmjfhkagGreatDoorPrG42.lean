import Derived.Test.YtnmaknnnmjfhkagGreatDoorPrG43
import Derived.Test.YtnmaknnnmjfhkagGreatDoorPrApS
import Derived.Test.YtnmaknnnmjfhkagGreatDoorPrVB
import Derived.Test.YtnmaknnnmjfhkagGreatDoorPrVS
import Derived.Test.YtnmaknnnmjfhkagGreatDoorPrG41
import Derived.Test.YtnmaknnnmjfhkagGreatDoorPrRbS
import Derived.Test.YtnmaknnnmjfhkagGreatDoorPrG49
import Derived.Test.YtnmaknnnmjfhkagGreatDoorPrG46
import Derived.Test.YtnmaknnnmjfhkagGreatDoorPrG51
import Derived.RangeFuncNested
import Derived.RangeFuncBound
import Derived.RangeFuncCalls
import Derived.RangeFuncLeaves
import Derived.RangeFuncBox
import Derived.Shelf.Abstract
import Derived.Shelf.RegionOpenV
import Derived.WalkKit
import Derived.OwnWalkIn
import Derived.TacticsInMore
import Derived.LoopNIn
import Derived.LoopIn
import Derived.Sort.QuietIn
import Derived.Maps.AppendAt
import Derived.Maps.OwnIn
import Derived.Test.YtnmaknnnmjfhkagGreatDoorPrG47
import Derived.WalkLawsBesides
import Derived.BigQuiet
import Derived.Deep.QuietTactic
import Derived.Deep.RegionHeld3
import Derived.Test.YtnmaknnnmjfhkagGreatDoorPrG44
set_option maxHeartbeats 16000000
set_option maxRecDepth 8000
namespace Go.Proofs.YtnmaknnnmjfhkagGreatDoor
open Go.RowKit
set_option linter.unusedVariables false
set_option linter.unusedSimpArgs false
set_option maxRecDepth 8000
def ApPost (w w' : World) (e : Ending) (rs : List Pr) (code : Int) : Prop := ∃ a c, e = .returned (.tuple #[stV a rs.length c, .int .i64 code]) ∧ rs.length ≤ c ∧ OwnS w' a (prcells rs) ∧ (∀ g, blk a rs.length = some g → w.heap.size ≤ g) ∧ Below w.heap.size w w'
theorem ap_no {w w' : World} {e : Ending} {a : Option Addr} {c : Nat} {code : Int} (he : e = .returned (.tuple #[stV a 0 c, .int .i64 code])) (hb : Below w.heap.size w w') : ApPost w w' e [] code := ⟨a, c, he, Nat.zero_le _, .inl rfl, fun g h => (by cases h), hb⟩
theorem OwnS.setA {w : World} {a : Option Addr} {cs : List Value} (h : OwnS w a cs) (p : Addr) (hp : ∀ g, a = some ⟨g, 0, none⟩ → cs ≠ [] → p.block ≠ g) (v : Value) : OwnS (w.setCell p v) a cs := by
  by_cases h0 : cs = []
  · exact .inl h0
  · obtain ⟨g, rfl, hr⟩ := h.resolve_left h0
    exact .inr ⟨g, rfl, hr.other p (hp g rfl h0) v⟩
theorem OwnS.prsA {w : World} {a : Option Addr} {rs : List Pr} (h : OwnS w a (prcells rs)) : Prs w a rs := by
  rcases h with h | ⟨g, rfl, h⟩
  · exact .inl (by have := congrArg List.length h; rw [prcells_length, List.length_nil] at this; exact List.eq_nil_of_length_eq_zero (by omega))
  · exact h.prs
theorem prcells_neA {rs : List Pr} (h : prcells rs ≠ []) : rs.length ≠ 0 := fun e => h (by rw [List.eq_nil_of_length_eq_zero e]; rfl)
set_option maxHeartbeats 16000000 in
theorem apply_s (a : Option Addr) (rs : List Pr) (c : Nat) (a2 : Option Addr) (b : List Ch) (c2 : Nat) (w : World) (h : Prs w a rs) (hl : rs.length ≤ 1048576) (hs : ∀ x ∈ rs, x.1.size ≤ 1048576 ∧ x.2.size ≤ 1048576) (h2 : Chs w a2 b) (hl2 : b.length ≤ 1048576) (hs2 : ∀ x ∈ b, x.1.size ≤ 1048576 ∧ x.2.1.size ≤ 1048576) :
    Calls Tryz.prog 101 #[stV a rs.length c, .slice a2 b.length c2] w fun e w' => ApPost w w' e (apR rs b) (apC rs b) := by
  have hb0 : ∀ o1 o2, Below w.heap.size w ((w.alloc o1).alloc o2) := fun o1 o2 => ((Below.refl _ _).alloc (Nat.le_refl _) _).alloc (by simp) _
  have HVS := hid (fun w' h' => vstate_s a rs c w' h' hl hs)
  have HVB := hid (fun w' h' => vbatch_s a2 b c2 w' h' hl2 hs2)
  unfold stV
  unfold apR apC
  cases hok : stateOk rs with
  | false =>
    rw [hok] at HVS
    simp only [Bool.false_and, Bool.false_eq_true, if_false]
    rw [if_neg (by omega)]
    go_enter Tryz.func101, Tryz.ntmps101
    go_wp2_with (go_at_call 85; refine (HVS.out _ (h.below (hb0 _ _))).mono ?_; rintro e w3 ⟨rfl, hb3⟩; have q1 : w3.cell? ⟨w.heap.size + 1, 0, none⟩ = some (.slice none 0 0) := (hb3.cell (p := ⟨w.heap.size + 1, 0, none⟩) (by simp)).trans (by go_simp); have f1 : w3.frozen? ⟨w.heap.size + 1, 0, none⟩ = false := (hb3.frozen (p := ⟨w.heap.size + 1, 0, none⟩) (by simp)).trans (by go_simp); have l1 : w.heap.size + 1 < w3.heap.size := Nat.lt_of_lt_of_le (by simp) hb3.size)
    refine bodyPost_ret (v := .tuple #[stV none 0 0, .int .i64 1]) (by simp [results, Tryz.results101, go_sem, stV, q1]) rfl (ap_no rfl ?_)
    exact ((hb0 _ _).trans (hb3.mono (by simp; omega))).setCell (p := ⟨w.heap.size + 1, 0, none⟩) (by show w.heap.size ≤ w.heap.size + 1; omega) _
  | true =>
    rw [hok] at HVS
    simp only [Bool.true_and]
    cases hokb : batchOk b with
    | false =>
      rw [hokb] at HVB
      simp only [Bool.false_eq_true, if_false]
      rw [if_neg (by omega)]
      go_enter Tryz.func101, Tryz.ntmps101
      go_wp2_with (first | (go_at_call 85; refine (HVS.out _ (h.below (hb0 _ _))).mono ?_; rintro e w3 ⟨rfl, hb3⟩; have HB3 := hid hb3; clear hb3) | (go_at_call 100; refine (HVB.out _ (h2.below ((hb0 _ _).trans (HB3.out.mono (by simp; omega))))).mono ?_; rintro e w4 ⟨rfl, hb4⟩; have hb3 := HB3.out; have hb34 := hb3.trans (hb4.mono hb3.size); have q1 : w4.cell? ⟨w.heap.size + 1, 0, none⟩ = some (.slice none 0 0) := (hb34.cell (p := ⟨w.heap.size + 1, 0, none⟩) (by simp)).trans (by go_simp); have f1 : w4.frozen? ⟨w.heap.size + 1, 0, none⟩ = false := (hb34.frozen (p := ⟨w.heap.size + 1, 0, none⟩) (by simp)).trans (by go_simp); have l1 : w.heap.size + 1 < w4.heap.size := Nat.lt_of_lt_of_le (by simp) hb34.size))
      refine bodyPost_ret (v := .tuple #[stV none 0 0, .int .i64 1]) (by simp [results, Tryz.results101, go_sem, stV, q1]) rfl (ap_no rfl ?_)
      exact ((hb0 _ _).trans (hb34.mono (by simp; omega))).setCell (p := ⟨w.heap.size + 1, 0, none⟩) (by show w.heap.size ≤ w.heap.size + 1; omega) _
    | true =>
      rw [hokb] at HVB
      simp only [if_true]
      have hle : rs.length ≤ 100 := (stateOk_of hok).1
      have hle2 : b.length ≤ 20 := (batchOk_of hokb).1.2
      have HCP := hid (fun w' h' => copy_st_s a rs c w' h' hl)
      unfold CpPost stV at HCP
      have HLN := hid (apU_len rs b)
      go_enter Tryz.func101, Tryz.ntmps101
      go_wp2_with (first | (go_at_call 85; refine (HVS.out _ (h.below (hb0 _ _))).mono ?_; rintro e w3 ⟨rfl, hb3⟩; have HB3 := hid hb3; clear hb3) | (go_at_call 100; refine (HVB.out _ (h2.below ((hb0 _ _).trans (HB3.out.mono (by simp; omega))))).mono ?_; rintro e w4 ⟨rfl, hb4⟩; have HB4 := hid (HB3.out.trans (hb4.mono HB3.out.size)); clear hb4; have q0 : w4.cell? ⟨w.heap.size, 0, none⟩ = some (.slice a rs.length c) := (HB4.out.cell (p := ⟨w.heap.size, 0, none⟩) (by simp; omega)).trans (by go_simp)) | (go_at_call 104; refine (HCP.out _ (h.below ((hb0 _ _).trans (HB4.out.mono (by simp; omega))))).mono ?_; rintro e w5 ⟨a5, c5, rfl, hc5, ho5, hg5, hb5⟩; have HB5 := hid (HB4.out.trans (hb5.mono HB4.out.size)); have HO5 := hid ho5; have hc5' := hc5; have HG5 := hid hg5; have HW45 := hid hb5.size; clear ho5 hg5 hb5))
      have hs4 : w.heap.size + 1 < w4.heap.size := by have := HB4.out.size; simp at this; omega
      have hs5 : w4.heap.size ≤ w5.heap.size := HW45.out
      have HBW : Hid (Below w.heap.size w w5) := (hb0 _ _).trans (HB5.out.mono (by simp; omega))
      have HQ1 : Hid (∀ w', Below w5.heap.size w5 w' → Row w' (w.heap.size + 1) [.slice none 0 0]) := fun w' hb => ((row_atA (w := w.alloc (.cells #[.slice a rs.length c] 31)) (A := #[.slice none 0 0]) (t := 31) (g := w.heap.size + 1) (by simp)).below HB5.out).below hb
      go_loopw [7] (fun i wr => ∃ k : Nat, k ≤ b.length ∧ i = .int .i64 (k : Int) ∧ ∃ va vc, Row wr w5.heap.size [.slice va (apU rs (b.take k)).length vc] ∧ (apU rs (b.take k)).length ≤ vc ∧ OwnS wr va (prcells (apU rs (b.take k))) ∧ (∀ g, blk va (apU rs (b.take k)).length = some g → w.heap.size + 1 < g ∧ g ≠ w5.heap.size) ∧ Below w5.heap.size w5 wr) (fun i _ => b.length - (intOf i).toNat)
      case atStart => exact ⟨0, Nat.zero_le _, rfl, a5, c5, row_new w5 _ _, hc5', HO5.out.below ((Below.refl _ _).alloc (Nat.le_refl _) _), fun g hg => by have h1 := HG5.out g hg; have h2 := HO5.out.lt rs.length (fun h e => h (by have := congrArg List.length e; rw [prcells_length, List.length_nil] at this; omega)) g hg; omega, (Below.refl _ _).alloc (Nat.le_refl _) _⟩
      case round =>
        obtain ⟨k, hk, rfl, va, vc, hrw, hcv, how, hbk, hbl⟩ := hrel
        have hN := HLN.out k
        have hq6 := hrw.cell 0 _ rfl
        have hf6 := hrw.froz 0 (by simp)
        have hl6 := hrw.lt
        have hsr := hbl.size
        have HRW := hid hrw
        have HOW := hid how
        have HBK := hid hbk
        have HBL := hid hbl
        clear hrw how hbk hbl
        by_cases hlt : k < b.length
        · obtain ⟨bb, oo, s0, s1, g0, rfl, hc0, hc1, hc2, HS⟩ := (h2.below (HBW.out.trans (HBL.out.mono HBW.out.size))).at hlt
          have hlbb : bb < w.heap.size := by
            rcases h2 with h | ⟨b', o', h1, h2, _⟩
            · subst h; simp at hlt
            · cases h1; exact h2
          have hlt' : (k : Int) < (b.length : Int) := by omega
          have hk0 : (0 : Int) ≤ (k : Int) := by omega
          have hst : apU rs (b.take (k + 1)) = chF (s0, s1, g0) (apU rs (b.take k)) := by rw [takeA_snoc b k (ByteArray.empty, ByteArray.empty, false) hlt, apU_snoc, ← HS.out]
          have HST := hid hst
          have HCH := hid (fun W (hW : Prs W va (apU rs (b.take k))) => change_s va (apU rs (b.take k)) vc s0 s1 g0 W hW (by omega))
          obtain ⟨cur, hcur⟩ : ∃ cur, cur = apU rs (b.take k) := ⟨_, rfl⟩
          rw [← hcur] at HST HCH HRW HOW HBK hq6 hN hcv
          clear hst hcur HS
          unfold stV CpPost at HCH
          have HT : Hid (∀ w', Below w.heap.size wr w' → w'.cell? ⟨bb, oo + k * 3, none⟩ = some (.string s0) ∧ w'.cell? ⟨bb, oo + k * 3 + 1, none⟩ = some (.string s1) ∧ w'.cell? ⟨bb, oo + k * 3 + 2, none⟩ = some (.bool g0)) := fun w' hb => ⟨(hb.cell (p := ⟨bb, oo + k * 3, none⟩) hlbb).trans hc0, (hb.cell (p := ⟨bb, oo + k * 3 + 1, none⟩) hlbb).trans hc1, (hb.cell (p := ⟨bb, oo + k * 3 + 2, none⟩) hlbb).trans hc2⟩
          have hww : w.heap.size ≤ wr.heap.size := by omega
          go_wp2_with fail
          refine wp_region_held_drew (S := fun w' => w'.cell? ⟨bb, oo + k * 3, none⟩ = some (.string s0) ∧ w'.cell? ⟨bb, oo + k * 3 + 1, none⟩ = some (.string s1) ∧ w'.cell? ⟨bb, oo + k * 3 + 2, none⟩ = some (.bool g0)) (by kernel_rfl) (HT.out _ (Below.refl _ _).drew) (fun hHeld => ?_)
          refine TK (i := 1) (v := .slice (some ⟨bb, oo, none⟩) b.length c2) rfl (Or.inl ⟨by rfl, fun w hw => by obtain ⟨z0, z1, z2⟩ := hw; go_simp⟩) hHeld ?_
          simp only [PS]
          refine TK (i := 2) (v := .int .i64 (k : Int)) rfl (Or.inl ⟨by rfl, fun w hw => by obtain ⟨z0, z1, z2⟩ := hw; go_simp⟩) hHeld ?_
          simp only [PS]
          refine TK (i := 3) (v := .pointer (some ⟨bb, oo + k * 3, none⟩)) rfl (Or.inl ⟨by rfl, fun w hw => by obtain ⟨z0, z1, z2⟩ := hw; go_simp⟩) hHeld ?_
          simp only [PS]
          refine TK (i := 4) (v := .agg #[.string s0, .string s1, .bool g0]) rfl (Or.inl ⟨by rfl, fun w hw => by obtain ⟨z0, z1, z2⟩ := hw; go_simp⟩) hHeld ?_
          simp only [PS]
          refine wpAnyH_ready (rs := [0]) (by kernel_rfl) (by simp) ?_
          refine AllReadyH.cons rfl (fun K hK => ?_) AllReadyH.nil
          go_simp
          refine hK.out _ _ hHeld (fun _ => ?_)
          clear hK K
          try simp only [PS]
          refine wpAnyH_ready (rs := [5]) (by kernel_rfl) (by simp) ?_
          refine AllReadyH.cons rfl (fun K hK => ?_) AllReadyH.nil
          refine step_call (by rfl) 190 #[.agg #[.slice va cur.length vc], .agg #[.string s0, .string s1, .bool g0]] (by go_simp) (HCH.out _ ((HOW.out.below (Below.refl _ _).drew).prsA)) ?_
          rintro e w7 ⟨a7, c7, rfl, hc7, ho7, hg7, hb7⟩
          refine ⟨_, rfl, ?_⟩
          have hb7' : Below wr.heap.size wr w7 := (Below.refl _ _).drew.trans hb7
          have hr7 := HRW.out.below hb7'
          have q7 := hr7.cell 0 _ rfl
          have f7 := hr7.froz 0 (by simp)
          have l7 := hr7.lt
          refine hK.out _ _ (HT.out _ (hb7'.mono hww)) (fun hHd2 => ?_)
          clear hK K
          try simp only [PS]
          refine wpAnyH_ready (rs := [6]) (by kernel_rfl) (by simp) ?_
          refine AllReadyH.cons rfl (fun K hK => ?_) AllReadyH.nil
          go_simp
          refine hK.out _ _ (HT.out _ ((hb7'.mono hww).setCell (p := ⟨w5.heap.size, 0, none⟩) (by show w.heap.size ≤ w5.heap.size; omega) _)) (fun hHd3 => ?_)
          clear hK K
          try simp only [PS]
          refine wpAnyH_done (by kernel_rfl) ?_ _
          go_wp2
          refine ⟨⟨k + 1, by omega, by go_num, a7, c7, ?_, ?_, ?_, ?_, ?_⟩, by simp [intOf]; omega⟩
          · rw [HST.out]; exact hr7.set 0 (by simp) _
          · rw [HST.out]; exact hc7
          · rw [HST.out]; exact ho7.setA _ (fun g hg hne => by have : wr.heap.size ≤ g := hg7 g (by subst hg; exact blk_pos _ _ _ (prcells_neA hne)); show w5.heap.size ≠ g; omega) _
          · rw [HST.out]; exact fun g hg => by have : wr.heap.size ≤ g := hg7 g hg; omega
          · exact (HBL.out.trans (hb7'.mono hsr)).setCell (p := ⟨w5.heap.size, 0, none⟩) (Nat.le_refl _) _
        · have hkl : k = b.length := by omega
          subst hkl
          have hr1 := HQ1.out _ HBL.out
          have q1 := hr1.cell 0 _ rfl
          have f1 := hr1.froz 0 (by simp)
          have l1 := hr1.lt
          have hBn : w.heap.size + 1 ≠ w5.heap.size := by omega
          have hBn2 : ¬ w5.heap.size = w.heap.size + 1 := by omega
          rw [List.take_length] at hq6 hcv HRW HOW HBK
          clear hr1 hN
          by_cases h100 : (apU rs b).length ≤ 100
          · have HIF := hid h100
            have h100' : ((apU rs b).length : Int) ≤ 100 := by omega
            clear h100
            go_wp2_with fail
            refine bodyPost_ret (v := .tuple #[stV va (apU rs b).length vc, .int .i64 0]) (by simp [results, Tryz.results101, go_sem, stV, q1]) rfl ⟨va, vc, rfl, hcv, ?_, fun g hg => by have := (HBK.out g hg).1; omega, ?_⟩
            · exact HOW.out.setA _ (fun g hg hne => by have := (HBK.out g (by subst hg; exact blk_pos _ _ _ (prcells_neA hne))).1; show w.heap.size + 1 ≠ g; omega) _
            · exact (HBW.out.trans (HBL.out.mono HBW.out.size)).setCell (p := ⟨w.heap.size + 1, 0, none⟩) (by show w.heap.size ≤ w.heap.size + 1; omega) _
          · have HIF := hid h100
            have h100' : ¬ ((apU rs b).length : Int) ≤ 100 := by omega
            clear h100
            go_wp2_with fail
            refine bodyPost_ret (v := .tuple #[stV none 0 0, .int .i64 2]) (by simp [results, Tryz.results101, go_sem, stV, q1]) rfl (ap_no rfl ?_)
            exact (HBW.out.trans (HBL.out.mono HBW.out.size)).setCell (p := ⟨w.heap.size + 1, 0, none⟩) (by show w.heap.size ≤ w.heap.size + 1; omega) _
end Go.Proofs.YtnmaknnnmjfhkagGreatDoor

namespace Go.Proofs.YtnmaknnnmjfhkagGreatDoor
open Go.RowKit
set_option maxRecDepth 8000
set_option linter.unusedVariables false
set_option linter.unusedSimpArgs false
def FdPost (w w' : World) (e : Ending) (res : Option (List Pr)) : Prop := ∃ a c, e = .returned (.tuple #[stV a (res.getD []).length c, .bool res.isSome]) ∧ (res.getD []).length ≤ c ∧ OwnS w' a (prcells (res.getD [])) ∧ (∀ g, blk a (res.getD []).length = some g → w.heap.size ≤ g) ∧ Below w.heap.size w w'
theorem resS_ok {s : ByteArray} {o : List Ch} (h : resS s = some o) : batchOk o = true := by
  rw [← res_eq] at h
  unfold resI at h
  split at h
  · cases h
  · split at h
    · rename_i hh; cases h; exact hh
    · cases h
theorem ownS_chs {w : World} {a : Option Addr} {rs : List Ch} (h : OwnS w a (chcells rs)) : Chs w a rs := by
  rcases h with h | ⟨g, rfl, h⟩
  · refine .inl ?_
    cases rs with
    | nil => rfl
    | cons x r => obtain ⟨x0, x1, x2⟩ := x; exact absurd h (by simp [chcells])
  · exact h.chs
theorem prcells_neF {l : List Pr} (h : prcells l ≠ []) : l.length ≠ 0 := fun e => h (by rw [List.eq_nil_of_length_eq_zero e]; rfl)
theorem OwnS.setF {w : World} {a : Option Addr} {cs : List Value} (h : OwnS w a cs) (p : Addr) (hp : ∀ g, a = some ⟨g, 0, none⟩ → cs ≠ [] → p.block ≠ g) (v : Value) : OwnS (w.setCell p v) a cs := by
  by_cases h0 : cs = []
  · exact .inl h0
  · rcases h with h | ⟨g, rfl, hr⟩
    · exact absurd h h0
    · exact .inr ⟨g, rfl, hr.other p (hp g rfl h0) v⟩
structure FdB (w W : World) (rs : List Pr) (sa : Option Addr) (sc : Nat) : Prop where
  rb : Row W w.heap.size [.slice none 0 0]
  st : Row W (w.heap.size + 1) [.slice sa rs.length sc]
  own : OwnS W sa (prcells rs)
  lo : ∀ g, blk sa rs.length = some g → w.heap.size + 2 ≤ g
  cap : rs.length ≤ sc
  be : Below w.heap.size w W
theorem FdB.new (w : World) : FdB w ((w.alloc (.cells #[.slice none 0 0] 31)).alloc (.cells #[.slice none 0 0] 31)) [] none 0 :=
  ⟨(row_new' w #[.slice none 0 0] 31 w.heap.size rfl).alloc _, row_new' _ #[.slice none 0 0] 31 _ (by simp), .inl rfl, fun g hg => (by cases hg), Nat.le_refl _, ((Below.refl _ _).alloc (Nat.le_refl _) _).alloc (by simp) _⟩
theorem FdB.below {w W W' : World} {rs : List Pr} {sa : Option Addr} {sc : Nat} (h : FdB w W rs sa sc) (hb : Below W.heap.size W W') : FdB w W' rs sa sc := ⟨h.rb.below hb, h.st.below hb, h.own.below hb, h.lo, h.cap, h.be.trans (hb.mono h.be.size)⟩
theorem FdB.set {w X : World} {W' : Obj} {rs rs' : List Pr} {sa sa' : Option Addr} {sc sc' : Nat} (h : FdB w (X.alloc W') rs sa sc) (ho : OwnS X sa' (prcells rs')) (hc : rs'.length ≤ sc') (hlo : ∀ g, blk sa' rs'.length = some g → w.heap.size + 2 ≤ g) :
    FdB w ((X.alloc W').setCell ⟨w.heap.size + 1, 0, none⟩ (.slice sa' rs'.length sc')) rs' sa' sc' := by
  refine ⟨h.rb.other _ (by show w.heap.size + 1 ≠ w.heap.size; omega) _, h.st.set 0 (by simp) _, OwnS.setF (ho.below ((Below.refl _ _).alloc (Nat.le_refl _) _)) _ (fun g hg hn => ?_) _, hlo, hc, h.be.setCell (by show w.heap.size ≤ w.heap.size + 1; omega) _⟩
  have := hlo g (by subst hg; exact blk_pos _ _ _ (prcells_neF hn))
  show w.heap.size + 1 ≠ g
  omega
set_option maxHeartbeats 16000000 in
theorem fold_s (a : Option Addr) (es : List ByteArray) (c : Nat) (w : World) (h : Strs w a es) (hl : es.length ≤ 1000) (hs : ∀ e ∈ es, e.size ≤ 1048576) :
    Calls Tryz.prog 53 #[.slice a es.length c] w fun e w' => FdPost w w' e (foldE es []) := by
  obtain ⟨RES, HRES⟩ : ∃ RES, Hid (RES = foldE es []) := ⟨_, hid rfl⟩
  rw [← HRES.out]
  have HH := hid h
  have HS := hid hs
  clear h hs
  go_enter Tryz.func53, Tryz.ntmps53
  go_wp2
  go_loopw [5] (fun iv wr => ∃ (i : Nat) (rs : List Pr) (sa : Option Addr) (sc : Nat) (W : World), W = wr ∧ iv = .int .i64 (i : Int) ∧ i ≤ es.length ∧ stateOk rs = true ∧ Hid (foldE (es.drop i) rs = RES) ∧ FdB w W rs sa sc) (fun iv _ => ((es.length : Int) - intOf iv).toNat)
  case atStart => exact ⟨0, [], none, 0, _, rfl, rfl, Nat.zero_le _, stateOk_nil, by show _ = _; rw [HRES.out]; rfl, FdB.new w⟩
  case round =>
    obtain ⟨i, rs, sa, sc, wr, rfl, rfl, hi, hok, HF, D⟩ := hrel
    have HD := hid D
    have d1 := D.st.cell 0 _ rfl
    have d1l := D.st.lt
    have d0 := D.rb.cell 0 _ rfl
    have d0l := D.rb.lt
    have d0f := D.rb.froz 0 (by simp)
    have hok' := stateOk_sizes hok
    have hrl := hok'.1
    have HOK := hid hok
    have HSZ := hid hok'.2
    clear hok hok' D
    by_cases hlt : i < es.length
    · have hlt' : (i : Int) < (es.length : Int) := by omega
      have hi0 : (0 : Int) ≤ (i : Int) := by omega
      have hw1 : IntKind.i64.wrap ((i : Int) + 1) = (i : Int) + 1 := by simp [IntKind.wrap, IntKind.bits, IntKind.signed]; omega
      obtain ⟨b, o, s, rfl, hc, HE⟩ := (HH.out.below HD.out.be).at hlt
      have hes : s.size ≤ 1048576 := HS.out s (by rw [HE.out]; simp [List.getD, hlt])
      have hdr : es.drop i = s :: es.drop (i + 1) := by rw [HE.out]; simp [List.getD, hlt]
      have hbl : b < wr.heap.size := by have := World.block_lt_of_cell? wr _ hc; simpa using this
      have HRB := hid (fun wx => read_s s wx hes)
      skip
      rw [hdr] at HF
      have HDR := hid hdr
      clear hdr
      cases hR : resS s with
      | none =>
        rw [hR] at HRB
        have HN : Hid (RES = none) := by show _ = _; rw [← HF.out]; exact foldE_none hR
        clear hR
        go_wp2_with fail
        refine (HRB.out _).mono ?_
        rintro e w5 ⟨ab, cb, rfl, _, _, hb5⟩
        simp only [Option.getD_none, Option.isSome_none, List.length_nil]
        have D5 := HD.out.below hb5
        have HD5 := hid D5
        have r0 := D5.rb.cell 0 _ rfl
        have r0l := D5.rb.lt
        have r0f := D5.rb.froz 0 (by simp)
        clear d1 d1l d0 d0l d0f D5 hb5 hc
        go_wp2
        refine bodyPost_ret (v := .tuple #[stV none 0 0, .bool false]) (by simp [results, Tryz.results53, go_sem, r0, stV]) rfl ?_
        rw [HN.out]
        exact ⟨none, 0, rfl, Nat.le_refl _, .inl rfl, fun g hg => (by cases hg), HD5.out.be.setCell (by show w.heap.size ≤ w.heap.size; omega) _⟩
      | some bb =>
        rw [hR] at HRB
        have hbs := batchOk_sizes (resS_ok hR)
        have HBS := hid hbs.2
        have hbl2 := hbs.1
        clear hbs
        by_cases hc0 : apC rs bb = 0
        · have HN : Hid (foldE (es.drop (i + 1)) (apU rs bb) = RES) := by show _ = _; rw [← HF.out]; exact (foldE_yes hR hc0).symm
          have hU : apR rs bb = apU rs bb := by unfold apR; rw [if_pos hc0]
          have HOU := hid (apU_ok hc0)
          clear hR
          go_wp2_with fail
          refine (HRB.out _).mono ?_
          rintro e w5 ⟨ab, cb, rfl, ho5, hg5, hb5⟩
          simp only [Option.getD_some, Option.isSome_some] at ho5 hg5 ⊢
          have D5 := HD.out.below hb5
          have HD5 := hid D5
          have r1 := D5.st.cell 0 _ rfl
          have r1l := D5.st.lt
          have HAP := hid (apply_s sa rs sc ab bb cb w5 D5.own.prs (by omega) HSZ.out (ownS_chs ho5) (by omega) HBS.out)
          rw [hU, hc0] at HAP
          clear d1 d1l d0 d0l d0f D5 hb5 hc ho5 hg5
          go_wp2_with fail
          refine HAP.out.mono ?_
          rintro e w6 ⟨a6, c6, rfl, hc6, ho6, hg6, hb6⟩
          have D6 := (HD5.out.below hb6).below (below_new w6 (.cells #[.slice a6 (apU rs bb).length c6] 31))
          have HD6 := hid (D6.set ho6 hc6 (fun g hg => by have := hg6 g hg; omega))
          have x1 := D6.st.cell 0 _ rfl
          have x1f := D6.st.froz 0 (by simp)
          have x1l := D6.st.lt
          have x6 : w6.heap.size ≠ w.heap.size + 1 := by have := (HD5.out.below hb6).st.lt; omega
          clear r1 r1l D6 hb6 ho6 hg6 hc0 hU
          go_wp2
          exact ⟨⟨i + 1, _, a6, c6, _, rfl, by simp, by omega, HOU.out, HN, HD6.out⟩, by simp [intOf]; omega⟩
        · have HN : Hid (RES = none) := by show _ = _; rw [← HF.out]; exact foldE_no hR hc0
          have hU : apR rs bb = [] := by unfold apR; rw [if_neg hc0]
          have hcb : (apC rs bb == 0) = false := by simp [hc0]
          have hcb2 : (apC rs bb != 0) = true := by simp [hc0]
          clear hR
          go_wp2_with fail
          refine (HRB.out _).mono ?_
          rintro e w5 ⟨ab, cb, rfl, ho5, hg5, hb5⟩
          simp only [Option.getD_some, Option.isSome_some] at ho5 hg5 ⊢
          have D5 := HD.out.below hb5
          have HD5 := hid D5
          have r1 := D5.st.cell 0 _ rfl
          have r1l := D5.st.lt
          have HAP := hid (apply_s sa rs sc ab bb cb w5 D5.own.prs (by omega) HSZ.out (ownS_chs ho5) (by omega) HBS.out)
          rw [hU] at HAP
          clear d1 d1l d0 d0l d0f D5 hb5 hc ho5 hg5 hU
          go_wp2_with fail
          refine HAP.out.mono ?_
          rintro e w6 ⟨a6, c6, rfl, hc6, ho6, hg6, hb6⟩
          have D6 := (HD5.out.below hb6).below (below_new w6 (.cells #[.slice a6 0 c6] 31))
          have HD6 := hid D6
          have r0 := D6.rb.cell 0 _ rfl
          have r0l := D6.rb.lt
          have r0f := D6.rb.froz 0 (by simp)
          clear r1 r1l D6 hb6 ho6 hg6
          go_wp2
          refine bodyPost_ret (v := .tuple #[stV none 0 0, .bool false]) (by simp [results, Tryz.results53, go_sem, r0, stV]) rfl ?_
          rw [HN.out]
          exact ⟨none, 0, rfl, Nat.le_refl _, .inl rfl, fun g hg => (by cases hg), HD6.out.be.setCell (by show w.heap.size ≤ w.heap.size; omega) _⟩
    · have HN : Hid (RES = some rs) := by show _ = _; rw [← HF.out, List.drop_of_length_le (by omega)]; rfl
      have hlt' : ¬ ((i : Int) < (es.length : Int)) := by omega
      have hne : ¬ (w.heap.size = w.heap.size + 1) := by omega
      go_wp2
      refine bodyPost_ret (v := .tuple #[stV sa rs.length sc, .bool true]) (by simp [results, Tryz.results53, go_sem, d0, stV]) rfl ?_
      rw [HN.out]
      refine ⟨sa, sc, rfl, HD.out.cap, OwnS.setF HD.out.own ⟨w.heap.size, 0, none⟩ (fun g hg hn => ?_) _, fun g hg => by have := HD.out.lo g hg; omega, HD.out.be.setCell (by show w.heap.size ≤ w.heap.size; omega) _⟩
      have := HD.out.lo g (by subst hg; exact blk_pos _ _ _ (prcells_neF hn))
      show w.heap.size ≠ g
      omega
end Go.Proofs.YtnmaknnnmjfhkagGreatDoor

namespace Go.Proofs.YtnmaknnnmjfhkagGreatDoor
open Go.RowKit
set_option maxRecDepth 8000
set_option linter.unusedVariables false
set_option linter.unusedSimpArgs false
theorem info_opW : (Tryz.prog.info? 110).map (fun i => (i.zero, i.size, i.bytes)) = some (some (.agg #[.bool false, .int .i64 0, .string ByteArray.empty]), 3, 32) := by kernel_rfl
structure Wrt (w : World) (base g : Nat) (v : Value) (os : List OpT) (at_ nm lf wd : Int) : Prop where
  row : Row w g [v, .int .i64 at_, .int .i64 nm, .int .i64 lf, .int .i64 wd]
  own : w.ownsRow base 110 3 v os.length (opcells os)
  ge : base ≤ g
  ne : v.ownBlock ≠ some g
theorem Wrt.below {w w' : World} {base g : Nat} {v : Value} {os : List OpT} {at_ nm lf wd : Int} (h : Wrt w base g v os at_ nm lf wd) (hb : Below w.heap.size w w') : Wrt w' base g v os at_ nm lf wd := ⟨h.row.below hb, owns_below h.own hb, h.ge, h.ne⟩
theorem oneOp (b : Bool) (n : Int) (s : ByteArray) : ∀ u ∈ [Value.bool b, .int .i64 n, .string s], u.oneCell' = true := by
  intro u hu
  simp only [List.mem_cons, List.not_mem_nil, or_false] at hu
  rcases hu with rfl | rfl | rfl <;> rfl
theorem half_start (n h : Int) (h0 : 0 ≤ h) (h1 : h ≤ 1) (w : World) : Calls Tryz.prog 63 #[.int .i64 n, .int .i64 h] w fun e w' => e = .returned (.int .i64 (2 + h * hv n)) ∧ w' = w := by
  have hQ : 0 ≤ hv n ∧ hv n ≤ 99 := by by_cases h : 8 ≤ n ∧ n ≤ 200; have := hv_yes h; omega; rw [hv_no h]; omega
  obtain ⟨Q, HQ⟩ : ∃ Q, Hid (Q = hv n) := ⟨_, hid rfl⟩
  rw [← HQ.out] at hQ ⊢
  obtain ⟨q, hq⟩ : ∃ q, q = h * Q := ⟨_, rfl⟩
  have hqb : 0 ≤ q ∧ q ≤ 99 := by
    rcases (show h = 0 ∨ h = 1 by omega) with e | e
    · subst e; omega
    · subst e; omega
  have hw1 : IntKind.i64.wrap (h * Q) = q := by rw [← hq]; simp [IntKind.wrap, IntKind.bits, IntKind.signed]; omega
  have hw2 : IntKind.i64.wrap (2 + q) = 2 + q := by simp [IntKind.wrap, IntKind.bits, IntKind.signed]; omega
  rw [← hq]
  clear hq
  go_enter Tryz.func63, Tryz.ntmps63
  go_wp2_with (go_at_call 64; refine (halves_i _ _).mono ?_; rw [← HQ.out]; rintro e wz ⟨rfl, hwz⟩; rw [hwz]; clear hwz wz)
  go_ret
  exact ⟨rfl, rfl⟩
set_option maxHeartbeats 16000000 in
theorem writer_of (W S L T H F R U O : Int) (a : Option Addr) (n c : Nat) (w : World) (h0 : 0 ≤ H) (h1 : H ≤ 1) (f0 : 1 ≤ F) (f1 : F ≤ 999999000) (u0 : 0 ≤ U) (u1 : U ≤ 99) :
    Calls Tryz.prog 96 #[storeV W S L T H F R U O a n c] w fun e w' => ∃ g, e = .returned (.pointer (some ⟨g, 0, none⟩)) ∧ Wrt w' w.heap.size g (.slice none 0 0) [] (2 + H * hv S + U) (F + U) L W ∧ Below w.heap.size w w' := by
  have hQ : 0 ≤ hv S ∧ hv S ≤ 99 := by by_cases h : 8 ≤ S ∧ S ≤ 200; have := hv_yes h; omega; rw [hv_no h]; omega
  obtain ⟨q, hq⟩ : ∃ q, q = H * hv S := ⟨_, rfl⟩
  have hqb : 0 ≤ q ∧ q ≤ 99 := by
    rcases (show H = 0 ∨ H = 1 by omega) with e | e
    · subst e; omega
    · subst e; omega
  have HH := hid (fun w' => half_start S H h0 h1 w')
  rw [← hq] at HH ⊢
  clear hq
  have hw1 : IntKind.i64.wrap (2 + q + U) = 2 + q + U := by simp [IntKind.wrap, IntKind.bits, IntKind.signed]; omega
  have hw2 : IntKind.i64.wrap (F + U) = F + U := by simp [IntKind.wrap, IntKind.bits, IntKind.signed]; omega
  unfold storeV
  obtain ⟨wb, HWB⟩ : ∃ wb, wb = w.alloc (.cells #[.int .i64 W, .int .i64 S, .int .i64 L, .int .i64 T, .int .i64 H, .int .i64 F, .int .i64 R, .int .i64 U, .int .i64 O, .slice a n c] 33) := ⟨_, rfl⟩
  have HT : Hid (∀ w', Below wb.heap.size wb w' → w'.cell? ⟨w.heap.size, 0, none⟩ = some (.int .i64 W) ∧ w'.cell? ⟨w.heap.size, 1, none⟩ = some (.int .i64 S) ∧ w'.cell? ⟨w.heap.size, 2, none⟩ = some (.int .i64 L) ∧ w'.cell? ⟨w.heap.size, 4, none⟩ = some (.int .i64 H) ∧ w'.cell? ⟨w.heap.size, 5, none⟩ = some (.int .i64 F) ∧ w'.cell? ⟨w.heap.size, 7, none⟩ = some (.int .i64 U)) := fun w' hb => by
    have hsz : w.heap.size < wb.heap.size := by rw [HWB]; simp
    refine ⟨(hb.cell (p := ⟨w.heap.size, 0, none⟩) hsz).trans ?_, (hb.cell (p := ⟨w.heap.size, 1, none⟩) hsz).trans ?_, (hb.cell (p := ⟨w.heap.size, 2, none⟩) hsz).trans ?_, (hb.cell (p := ⟨w.heap.size, 4, none⟩) hsz).trans ?_, (hb.cell (p := ⟨w.heap.size, 5, none⟩) hsz).trans ?_, (hb.cell (p := ⟨w.heap.size, 7, none⟩) hsz).trans ?_⟩ <;> (rw [HWB]; go_simp)
  have HBB : Hid (Below w.heap.size w wb) := by show Below _ _ _; rw [HWB]; exact (Below.refl _ _).alloc (Nat.le_refl _) _
  go_enter Tryz.func96, Tryz.ntmps96
  go_wp2_with fail
  rw [← HWB]
  clear HWB
  go_region_held3 (fun w' => w'.cell? ⟨w.heap.size, 0, none⟩ = some (.int .i64 W) ∧ w'.cell? ⟨w.heap.size, 1, none⟩ = some (.int .i64 S) ∧ w'.cell? ⟨w.heap.size, 2, none⟩ = some (.int .i64 L) ∧ w'.cell? ⟨w.heap.size, 4, none⟩ = some (.int .i64 H) ∧ w'.cell? ⟨w.heap.size, 5, none⟩ = some (.int .i64 F) ∧ w'.cell? ⟨w.heap.size, 7, none⟩ = some (.int .i64 U))
    (first | assumption | exact HT.out _ ((Below.refl _ _).drew) | exact HT.out _ ((Below.refl _ _).drew.alloc (Nat.le_refl _) _))
    (first | (go_at_call 63; refine (HH.out _).mono ?_; rintro e wz ⟨rfl, rfl⟩))
  all_goals
    go_wp2
    go_ret
    refine ⟨wb.heap.size, rfl, ⟨row_at (w := wb.drew) rfl, World.ownsRow_nil _ _ _ _, HBB.out.size, by simp [Value.ownBlock]⟩, HBB.out.trans (((Below.refl _ _).drew.alloc (Nat.le_refl _) _).mono HBB.out.size)⟩
set_option maxHeartbeats 16000000 in
theorem sync_i (base g : Nat) (v : Value) (os : List OpT) (at_ nm lf wd : Int) (w : World) (h : Wrt w base g v os at_ nm lf wd) (hb : base ≤ w.heap.size) (hl : os.length ≤ 1000) :
    Calls Tryz.prog 98 #[.pointer (some ⟨g, 0, none⟩)] w fun e w' => (∃ x, e = .returned x) ∧ (∃ v', Wrt w' base g v' (os ++ [(true, 0, ByteArray.empty)]) at_ nm lf wd) ∧ Below base w w' := by
  obtain ⟨i0, hi0, hz0, hz1, hz2⟩ := info_partsP info_opW
  have HI := hid (And.intro hi0 (And.intro hz0 (And.intro hz1 hz2)))
  clear hi0 hz0 hz1 hz2
  obtain ⟨va, vc, rfl⟩ : ∃ va vc, v = Value.slice va os.length vc := by
    rcases owns_forms h.own with ⟨e1, e2⟩ | ⟨g, cap, e1, _⟩
    · exact ⟨none, 0, by rw [e1, e2]⟩
    · exact ⟨_, cap, e1⟩
  have q0 := h.row.cell 0 _ rfl
  have r0 := h.row.froz 0 (by simp)
  have lg := h.row.lt
  have HOA := hid (h.own.alloc (.cells #[.bool true, .int .i64 0, .string ⟨#[]⟩] 110))
  go_enter Tryz.func98, Tryz.ntmps98
  go_wp2_with (at_builtin; refine wpList_append_lies _ rfl _ _ 34 rfl base 110 i0 (.agg #[.bool false, .int .i64 0, .string ByteArray.empty]) 3 32 Tryz.underlying34 HI.out.1 HI.out.2.1 HI.out.2.2.1 HI.out.2.2.2 rfl (by omega) _ os.length _ rfl HOA.out ⟨w.heap.size, 0, none⟩ 1 1 [.bool true, .int .i64 0, .string ⟨#[]⟩] rfl rfl (World.news_of_block (heap_alloc_new w _)) (oneOp _ _ _) (by omega) (by unfold maxLen; omega) (by omega) (by simp; omega) (w.heap.size + 1) (by simp) ?_; intro g9 cap9 w9 hown9 hgrow9 hat9 hlt9; have HR9 := hid ((h.row.alloc _).grown hgrow9 (fun e => h.ne e.symm)); have q9 := HR9.out.cell 0 _ rfl; have r9 := HR9.out.froz 0 (by simp); have HO9 := hid hown9; have HB9 := hid (below_grownS ((Below.refl base w).alloc hb _) HOA.out hgrow9 (by simp; omega)); have hne9 : g9 ≠ g := (by rcases hat9 with e | e; exact fun e2 => h.ne (by rw [← e2]; exact e); omega); have HN9 := hid hne9; clear hown9 hgrow9 hat9 hne9)
  go_end0
  have hrow := HR9.out.set 0 (by simp) (.slice (some ⟨g9, 0, none⟩) (os.length + 1) cap9)
  refine ⟨⟨_, rfl⟩, ⟨.slice (some ⟨g9, 0, none⟩) (os.length + 1) cap9, hrow, ?_, h.ge, by simp [Value.ownBlock]; exact HN9.out⟩, HB9.out.setCell (p := ⟨g, 0, none⟩) h.ge _⟩
  have hgs : w9.grownBy (w9.setCell ⟨g, 0, none⟩ (.slice (some ⟨g9, 0, none⟩) (os.length + 1) cap9)) (some g) := ⟨rfl, rfl, rfl, by simp [World.setCell], fun k _ hk => Below.heap_setCell _ _ _ k (fun e => hk (by rw [e]))⟩
  have := HO9.out.kept hgs (.inr (by simp [Value.ownBlock]; exact HN9.out))
  rw [List.length_append, opcells_append]
  exact this
theorem Wrt.set {w : World} {base g : Nat} {v : Value} {os : List OpT} {at_ nm lf wd : Int} (h : Wrt w base g v os at_ nm lf wd) (b o : Nat) (hb : b < base) (u : Value) : Wrt (w.setCell ⟨b, o, none⟩ u) base g v os at_ nm lf wd := by
  have hgs : w.grownBy (w.setCell ⟨b, o, none⟩ u) (some b) := ⟨rfl, rfl, rfl, by simp [World.setCell], fun k _ hk => Below.heap_setCell _ _ _ k (fun e => hk (by rw [e]))⟩
  refine ⟨h.row.other _ (by show b ≠ g; have := h.ge; omega) _, h.own.kept hgs ?_, h.ge, h.ne⟩
  cases hk : v.ownBlock with
  | none => exact .inl rfl
  | some k =>
    refine .inr fun e => ?_
    cases e
    have := (h.own.lt b hk).1
    omega
end Go.Proofs.YtnmaknnnmjfhkagGreatDoor

namespace Go.Proofs.YtnmaknnnmjfhkagGreatDoor
open Go.RowKit
set_option maxRecDepth 4000
set_option linter.unusedVariables false
set_option linter.unusedSimpArgs false
@[reducible] def scV (a : Option Addr) (n c : Nat) (u l : Int) : Value := .agg #[.slice a n c, .int .i64 u, .int .i64 l]
theorem scpost_own {w w' : World} {e : Ending} {x : Scd} (h : ScPost w w' e x) : ∃ a c, e = .returned (scV a x.1.length c x.2.1 x.2.2) ∧ OwnS w' a (x.1.map Value.string) ∧ (∀ g, blk a x.1.length = some g → w.heap.size ≤ g) ∧ Below w.heap.size w w' := by
  obtain ⟨y, rfl, ho, hb⟩ := h
  rcases owns_forms ho with ⟨e1, e2⟩ | ⟨g, cap, e1, h1, h2, hr⟩
  · subst e1
    have : x.1 = [] := List.eq_nil_of_length_eq_zero e2
    exact ⟨none, 0, by rw [e2], .inl (by rw [this]; rfl), fun g hg => (by rw [e2] at hg; cases hg), hb⟩
  · subst e1
    refine ⟨_, cap, rfl, .inr ⟨g, rfl, hr⟩, fun g' hg => ?_, hb⟩
    have := blk_is hg
    omega
end Go.Proofs.YtnmaknnnmjfhkagGreatDoor

namespace Go.Proofs.YtnmaknnnmjfhkagGreatDoor
open Go.RowKit Go.Shelf
set_option linter.unusedVariables false
set_option linter.unusedSimpArgs false
set_option maxRecDepth 4000
attribute [local go_sem] Oper.semAt_some
@[reducible] def pgV (x : Int × Int × Int × ByteArray) : Value := pageV x.1 x.2.1 x.2.2.1 x.2.2.2
@[reducible] def pgE {SF : Nat → ByteArray} {fm : Nat} {wd : Int} {N : Nat} (x : Pgs SF fm wd N) : Array Value := #[.int .i64 (x.1 : Int), pgV (pgAt SF fm wd x.1)]
def KpP (n3 g1 g2 : Nat) (A B : World) : Prop := Below n3 A B ∧ B.heap[g1]? = A.heap[g1]? ∧ B.heap[g2]? = A.heap[g2]?
theorem KpP.t {n3 g1 g2 : Nat} {A B C : World} (h : KpP n3 g1 g2 A B) (k : KpP n3 g1 g2 B C) : KpP n3 g1 g2 A C := ⟨h.1.trans k.1, k.2.1.trans h.2.1, k.2.2.trans h.2.2⟩
theorem KpP.b {n3 g1 g2 : Nat} {w : World} (hn : n3 ≤ w.heap.size) (h1 : g1 < w.heap.size) (h2 : g2 < w.heap.size) (W : World) (l : Nat) (o o' : Obj) (hl : w.heap.size ≤ l) (h : W.heap[l]? = some o) (hc : o.isCells = false) (hw : o.isWalk = false) : KpP n3 g1 g2 W (W.putObj l o') :=
  ⟨belowK_b hn W l o o' hl h hc hw, World.putObj_heap_other (by omega), World.putObj_heap_other (by omega)⟩
theorem KpP.grown {n3 g1 g2 : Nat} {A B C : World} (h : KpP n3 g1 g2 A B) (hg : Below B.heap.size B C) (h0 : n3 ≤ B.heap.size) (h1 : g1 < B.heap.size) (h2 : g2 < B.heap.size) : KpP n3 g1 g2 A C :=
  ⟨h.1.trans (hg.mono h0), (hg.block g1 h1).trans h.2.1, (hg.block g2 h2).trans h.2.2⟩
def PgEnd {SF : Nat → ByteArray} {fm : Nat} {wd : Int} {N : Nat} (u : Nat) (ys : List (Pgs SF fm wd N)) : Prop := Good u ys ∧ (N ≤ u + ys.length ∨ rpRes (SF (fm + (u + ys.length))) wd = none)
theorem heap_cell {w : World} {g : Nat} {cs : Array Value} {t : TypeId} {z : Nat × Nat} (h : w.heap[g]? = some (.cells cs t z)) (i : Nat) (v : Value) (hv : cs[i]? = some v) : w.cell? ⟨g, i, none⟩ = some v := by
  simp [World.cell?, h, hv]
theorem below_grown0 {A B : World} (h : Below A.heap.size A B) : A.grownBy B none := ⟨h.os, h.tape, h.output, h.size, fun k hk _ => h.block k hk⟩
set_option maxHeartbeats 16000000 in
theorem pages1_in (n : Nat) (hn : 1 ≤ n) (l g1 g2 fm N u : Nat) (SF : Nat → ByteArray) (wd : Int) (v0 v1 : Value) (w3 : World) (hN : N ≤ 200) (hu : u ≤ N)
    (HPG : Hid (∀ wx, Below w3.heap.size w3 wx → ∀ m : Nat, m < N → Calls Tryz.prog 220 #[regV v0 v1 (fm : Int) (N : Int) wd, .int .i64 (m : Int)] wx fun e w' => e = .returned (rpV (rpRes (SF (fm + m)) wd)) ∧ Below wx.heap.size wx w'))
    (J Jx : List (Pgs SF fm wd N) → World → Prop)
    (hY : ∀ pre x W1, J pre W1 → pre.length < N → YieldAt Fence.wide (n - 1) Tryz.prog l (pgE x) W1 fun e W' => (e = .returned (.bool true) ∧ J (pre ++ [x]) W' ∧ KpP w3.heap.size g1 g2 W1 W') ∨ (e = .returned (.bool false) ∧ Jx (pre ++ [x]) W'))
    (W : World) (hW : Below w3.heap.size w3 W) (hb1 : W.heap[g1]? = some (.cells #[.iface 272 (.agg #[v0, v1]), .int .i64 (fm : Int), .int .i64 (N : Int), .int .i64 wd] 207 (0, 0))) (hb2 : W.heap[g2]? = some (.cells #[.int .i64 (u : Int)] 3 (0, 0)))
    (h0 : J [] W) (hJ : ∀ s A B, J s A → A.grownBy B none → J s B) :
    CallsIn Fence.wide n Tryz.prog 219 #[.func (.yield l) #[] #[], .pointer (some ⟨g2, 0, none⟩), .pointer (some ⟨g1, 0, none⟩)] W fun e W' => (∃ v, e = .returned v) ∧
      ((∃ ys, PgEnd u ys ∧ J ys W') ∨ (∃ pre, Good u pre ∧ Jx pre W')) := by
  refine callsIn_of_wp Tryz.func219 rfl trivial ?_ rfl
  simp only [Tryz.ntmps219, List.size_toArray, List.length_cons, List.length_nil, Nat.reduceAdd, Nat.reduceSub, Array.replicate_succ, Array.replicate_zero, List.push_toArray, List.append_toArray, List.nil_append, List.cons_append]
  have HY := hid hY
  have HJ := hid hJ
  clear hY hJ
  have q0 := heap_cell hb2 0 (.int .i64 (u : Int)) rfl
  gi_wp2
  clear q0
  gi_loopw [4] (fun i wr => ∃ (k : Nat) (pre : List (Pgs SF fm wd N)), pre.length = k ∧ Good u pre ∧ u + k ≤ N ∧ i = .int .i64 ((u + k : Nat) : Int) ∧ J pre wr ∧ Below w3.heap.size w3 wr ∧ wr.heap[g1]? = some (.cells #[.iface 272 (.agg #[v0, v1]), .int .i64 (fm : Int), .int .i64 (N : Int), .int .i64 wd] 207 (0, 0))) (fun i _ => N - (intOf i).toNat)
  case atStart => exact ⟨0, [], rfl, Good.nil u, hu, rfl, h0, hW, hb1⟩
  case round =>
    obtain ⟨k, pre, hpl, hgd, huk, rfl, hJs, hbw, hg1⟩ := hrel
    obtain ⟨q, hq⟩ : ∃ q, q = u + k := ⟨_, rfl⟩
    rw [← hq]
    have HQ := hid hq
    have HPL := hid hpl
    have HGD := hid hgd
    have HJS := hid hJs
    have HBW := hid hbw
    have huq : q ≤ N := by omega
    have HG1 := hid hg1
    have hlg := (Array.getElem?_eq_some_iff.1 hg1).1
    clear hpl hgd hJs huk
    have c0 := heap_cell hg1 0 (.iface 272 (.agg #[v0, v1])) rfl
    have c1 := heap_cell hg1 1 (.int .i64 (fm : Int)) rfl
    have c2 := heap_cell hg1 2 (.int .i64 (N : Int)) rfl
    have c3 := heap_cell hg1 3 (.int .i64 wd) rfl
    clear hg1 hq hb1 hb2 hW h0
    by_cases hlt : q < N
    · have hlt' : (q : Int) < (N : Int) := by omega
      have hw1 : IntKind.i64.wrap ((q : Int) + 1) = (q : Int) + 1 := by simp [IntKind.wrap, IntKind.bits, IntKind.signed]; omega
      have hpg := HPG.out wr HBW.out q hlt
      clear hbw
      cases hR : rpRes (SF (fm + q)) wd with
      | none =>
        rw [hR] at hpg
        simp only [rpV] at hpg
        have HR := hid hR
        have HP := hid hpg
        clear hR hpg
        gi_wp2_with (refine ⟨trivial, ?_⟩; gi_at_call 220; refine (callsIn_wide.2 HP.out).mono ?_; rintro e w5 ⟨rfl, hb5⟩)
        refine ⟨fun f hf => (by cases hf), ?_⟩
        gi_wp2
        refine bodyPost_ret (results_none rfl _ _ _) rfl ?_
        refine ⟨⟨_, rfl⟩, .inl ⟨pre, ⟨HGD.out, .inr ?_⟩, HJ.out _ _ _ HJS.out (below_grown0 (hb5.alloc hb5.size _))⟩⟩
        rw [HPL.out, ← HQ.out]
        exact HR.out
      | some pg =>
        obtain ⟨pk, pl, pm, pp⟩ := pg
        rw [hR] at hpg
        simp only [rpV] at hpg
        obtain ⟨xx, hxx⟩ : ∃ xx : Pgs SF fm wd N, xx.1 = q := ⟨⟨q, hlt, by rw [hR]; rfl⟩, rfl⟩
        have hpx : pgE xx = #[.int .i64 (q : Int), .agg #[.int .i64 pk, .int .i64 pl, .int .i64 pm, .string pp]] := by unfold pgE pgV pgAt; rw [hxx, hR]; rfl
        have HPX := hid hpx
        have HXX := hid hxx
        have HR := hid hR
        have HP := hid hpg
        clear hR hpg hpx hxx
        gi_wp2_with (refine ⟨trivial, ?_⟩; gi_at_call 220; refine (callsIn_wide.2 HP.out).mono ?_; rintro e w5 ⟨rfl, hb5⟩)
        obtain ⟨fn, tmps, assign, body, hy, hRR⟩ := HY.out pre xx (w5.alloc (.cells #[.int .i64 pk, .int .i64 pl, .int .i64 pm, .string pp] 108)) (HJ.out _ _ _ HJS.out (below_grown0 (hb5.alloc hb5.size _))) (by rw [HPL.out]; have := HQ.out; omega)
        rw [HPX.out] at hy
        have hk5 := hb5.size
        have HG5 := hid ((hb5.alloc hb5.size (.cells #[.int .i64 pk, .int .i64 pl, .int .i64 pm, .string pp] 108)).block _ hlg)
        have HB5 := hid (HBW.out.trans ((hb5.alloc hb5.size (.cells #[.int .i64 pk, .int .i64 pl, .int .i64 pm, .string pp] 108)).mono HBW.out.size))
        clear hb5
        rw [hy, Oper.uponIn_round]
        refine ⟨fun _ => hn, ?_⟩
        refine hRR.mono ?_
        rintro e W6 (⟨rfl, hJ6, hk6⟩ | ⟨rfl, hJx6⟩)
        · have HG6 := hid (hk6.2.1.trans (HG5.out.trans HG1.out))
          have HB6 := hid (HB5.out.trans hk6.1)
          have HJ6 := hid hJ6
          clear hJ6 hk6 hRR hy
          gi_wp2
          go_roundw
          case rel => exact ⟨k + 1, pre ++ [xx], by rw [List.length_append, HPL.out]; rfl, HGD.out.push (by rw [HXX.out, HPL.out, HQ.out]), by have := HQ.out; omega, by have := HQ.out; simp; omega, HJ6.out, HB6.out, HG6.out⟩
          case measure => simp [intOf]; omega
        · have HJ6 := hid hJx6
          clear hJx6 hRR hy
          gi_wp2
          refine bodyPost_ret (results_none rfl _ _ _) rfl ?_
          exact ⟨⟨_, rfl⟩, .inr ⟨pre ++ [xx], HGD.out.push (by rw [HXX.out, HPL.out, HQ.out]), HJ6.out⟩⟩
    · gi_wp2
      go_end0
      exact ⟨⟨_, rfl⟩, .inl ⟨pre, ⟨HGD.out, .inl (by rw [HPL.out, ← HQ.out]; omega)⟩, HJS.out⟩⟩
set_option maxHeartbeats 16000000 in
theorem pages_in (n : Nat) (v0 v1 : Value) (fm N : Int) (wd : Int) (u : Int) (w : World) :
    CallsIn Fence.wide n Tryz.prog 153 #[regV v0 v1 fm N wd, .int .i64 u] w fun e w' => e = .returned (.func (.func 219) #[] #[.pointer (some ⟨w.heap.size + 1, 0, none⟩), .pointer (some ⟨w.heap.size, 0, none⟩)]) ∧ w' = (w.alloc (.cells #[.iface 272 (.agg #[v0, v1]), .int .i64 fm, .int .i64 N, .int .i64 wd] 207)).alloc (.cells #[.int .i64 u] 3) := by
  refine callsIn_of_wp Tryz.func153 rfl trivial ?_ rfl
  simp only [Tryz.ntmps153, List.size_toArray, List.length_cons, List.length_nil, Nat.reduceAdd, Nat.reduceSub, Array.replicate_succ, Array.replicate_zero, List.push_toArray, List.append_toArray, List.nil_append, List.cons_append]
  gi_wp2
  go_ret
  exact ⟨rfl, rfl⟩
theorem pages_stops (n : Nat) (hn : 1 ≤ n) (g1 g2 fm N u : Nat) (SF : Nat → ByteArray) (wd : Int) (v0 v1 : Value) (w3 w : World) (hN : N ≤ 200) (hu : u ≤ N) (h3 : Below w3.heap.size w3 w)
    (HPG : Hid (∀ wx, Below w3.heap.size w3 wx → ∀ m : Nat, m < N → Calls Tryz.prog 220 #[regV v0 v1 (fm : Int) (N : Int) wd, .int .i64 (m : Int)] wx fun e w' => e = .returned (rpV (rpRes (SF (fm + m)) wd)) ∧ Below wx.heap.size wx w'))
    (hb1 : w.heap[g1]? = some (.cells #[.iface 272 (.agg #[v0, v1]), .int .i64 (fm : Int), .int .i64 (N : Int), .int .i64 wd] 207 (0, 0))) (hb2 : w.heap[g2]? = some (.cells #[.int .i64 (u : Int)] 3 (0, 0))) :
    SeqStopsK Fence.wide n Tryz.prog 219 #[.pointer (some ⟨g2, 0, none⟩), .pointer (some ⟨g1, 0, none⟩)] (fun x : Pgs SF fm wd N => pgE x) (KpP w3.heap.size g1 g2) (PgEnd u) (Good u) N w := fun l J Jx W hW hJ hJx hY h0 =>
  pages1_in n hn l g1 g2 fm N u SF wd v0 v1 w3 hN hu HPG J Jx hY W (h3.trans (hW.mono h3.size)) ((hW.block _ (Array.getElem?_eq_some_iff.1 hb1).1).trans hb1) ((hW.block _ (Array.getElem?_eq_some_iff.1 hb2).1).trans hb2) h0 (fun s A B hs hg => hJ s A B none hs hg (fun r e => (by cases e)))
end Go.Proofs.YtnmaknnnmjfhkagGreatDoor

namespace Go.Proofs.YtnmaknnnmjfhkagGreatDoor
open Go.RowKit
set_option maxRecDepth 8000
set_option linter.unusedVariables false
set_option linter.unusedSimpArgs false
set_option maxHeartbeats 16000000
theorem info_strT : (Tryz.prog.info? 9).map (fun i => (i.zero, i.size, i.bytes)) = some (some (.string ByteArray.empty), 1, 16) := by kernel_rfl
theorem info_partsT {P : Program} {e : TypeId} {z : Value} {size bytes : Nat} (h : (P.info? e).map (fun i => (i.zero, i.size, i.bytes)) = some (some z, size, bytes)) : ∃ i, P.info? e = some i ∧ i.zero = some z ∧ i.size = size ∧ i.bytes = bytes := by
  obtain ⟨i, hi, hh⟩ := Option.map_eq_some_iff.1 h
  simp only [Prod.mk.injEq] at hh
  exact ⟨i, hi, hh⟩
theorem news_atT (w : World) (cs : Array Value) (t : TypeId) : ∀ j u, cs.toList[j]? = some u → (w.alloc (.cells cs t)).cell? ((⟨w.heap.size, 0, none⟩ : Addr).add j) = some u := World.news_of_block (heap_alloc_new w (.cells cs t))
theorem oneST (k : ByteArray) : ∀ u ∈ [Value.string k], u.oneCell' = true := by
  intro u hu
  simp only [List.mem_cons, List.not_mem_nil, or_false] at hu
  subst hu
  rfl
def TkPost (N FB : Nat) (y : Value) (w : World) (ents' : List ByteArray) (u' l' : Int) (w' : World) : Prop :=
  ∃ y', Row w' FB [y', .int .i64 u', .int .i64 l'] ∧ w'.ownsRow N 9 1 y' ents'.length (ents'.map Value.string) ∧ (y'.ownBlock = y.ownBlock ∨ ∃ H, y'.ownBlock = some H ∧ w.heap.size ≤ H) ∧ Below N w w' ∧ (∀ b, b < w.heap.size → b ≠ FB → some b ≠ y.ownBlock → w'.heap[b]? = w.heap[b]?)
theorem stake_i (N FB : Nat) (y : Value) (ents : List ByteArray) (u0 l0 k l m : Int) (p entry : ByteArray) (x : Nat) (w : World)
    (hr : Row w FB [y, .int .i64 u0, .int .i64 l0]) (ho : w.ownsRow N 9 1 y ents.length (ents.map Value.string)) (hNF : N ≤ FB) (hNw : N ≤ w.heap.size) (hne : y.ownBlock ≠ some FB) (hx : x ≤ 200) (hel : ents.length ≤ 300) :
    Calls Tryz.prog 156 #[.pointer (some ⟨FB, 0, none⟩), pageV k l m p, .int .i64 (x : Int), .string entry] w fun e w' => e = .returned (.tuple #[]) ∧ TkPost N FB y w (if k = 2 then ents ++ [entry] else ents) ((x : Int) + 1) l w' := by
  have hx1 : IntKind.i64.wrap ((x : Int) + 1) = (x : Int) + 1 := by simp [IntKind.wrap, IntKind.bits, IntKind.signed]; omega
  obtain ⟨i0, hi0, hz0, hz1, hz2⟩ := info_partsT info_strT
  have HI := hid (And.intro hi0 (And.intro hz0 (And.intro hz1 hz2)))
  clear hi0 hz0 hz1 hz2
  obtain ⟨ya, yc, rfl⟩ : ∃ ya yc, y = .slice ya ents.length yc := by
    rcases owns_forms ho with ⟨h1, h2⟩ | ⟨gg, cap, h1, _⟩
    · exact ⟨none, 0, by rw [h1, h2]⟩
    · exact ⟨_, cap, h1⟩
  have c0 := hr.cell 0 _ rfl
  have c1 := hr.cell 1 _ rfl
  have c2 := hr.cell 2 _ rfl
  have f0 := hr.froz 0 (by simp)
  have f1 := hr.froz 1 (by simp)
  have f2 := hr.froz 2 (by simp)
  have hl := hr.lt
  have hnl : ¬ FB = w.heap.size := by omega
  have HR := hid (((hr.set 1 (by simp) (.int .i64 ((x : Int) + 1))).set 2 (by simp) (.int .i64 l)).alloc (.cells #[.int .i64 k, .int .i64 l, .int .i64 m, .string p] 108))
  have HO := hid ((ownsRow_setCell_other (ownsRow_setCell_other ho hne (a := ⟨FB, 1, none⟩) (.int .i64 ((x : Int) + 1))) hne (a := ⟨FB, 2, none⟩) (.int .i64 l)).alloc (.cells #[.int .i64 k, .int .i64 l, .int .i64 m, .string p] 108))
  have HB := hid ((((Below.refl N w).setCell (p := ⟨FB, 1, none⟩) hNF (.int .i64 ((x : Int) + 1))).setCell (p := ⟨FB, 2, none⟩) hNF (.int .i64 l)).alloc (by simpa using hNw) (.cells #[.int .i64 k, .int .i64 l, .int .i64 m, .string p] 108))
  have HG : Hid (∀ b, b < w.heap.size → b ≠ FB → (((w.setCell ⟨FB, 1, none⟩ (.int .i64 ((x : Int) + 1))).setCell ⟨FB, 2, none⟩ (.int .i64 l)).alloc (.cells #[.int .i64 k, .int .i64 l, .int .i64 m, .string p] 108)).heap[b]? = w.heap[b]?) := fun b hb hbn => by
    rw [heap_alloc_old _ _ (by simpa using hb), Below.heap_setCell _ _ _ _ hbn, Below.heap_setCell _ _ _ _ hbn]
  by_cases hk : k = 2
  · subst hk
    rw [if_pos rfl]
    go_enter Tryz.func156, Tryz.ntmps156
    go_wp2_with (first | (at_builtin; refine wpList_append_lies _ rfl _ _ 22 rfl N 9 i0 (.string ByteArray.empty) 1 16 Tryz.underlying22 HI.out.1 HI.out.2.1 HI.out.2.2.1 HI.out.2.2.2 rfl (by omega) _ ents.length _ rfl (HO.out.alloc _) ⟨w.heap.size + 1, 0, none⟩ 1 1 [.string entry] rfl rfl (by intro j z hj; have := news_atT (((w.setCell ⟨FB, 1, none⟩ (.int .i64 ((x : Int) + 1))).setCell ⟨FB, 2, none⟩ (.int .i64 l)).alloc (.cells #[.int .i64 2, .int .i64 l, .int .i64 m, .string p] 108)) #[.string entry] 9 j z hj; simpa using this) (oneST _) (by omega) (by unfold maxLen; omega) (by omega) (by simp; omega) (w.heap.size + 1 + 1) (by simp) ?_; intro gn cap w10 hown10 hgrow10 hat10 hlt10; have rF := (HR.out.alloc (.cells #[.string entry] 9)).grown hgrow10 (fun e => hne e.symm); have d0 := rF.cell 0 _ rfl; have e0 := rF.froz 0 (by simp); have dl := rF.lt; have HRF := hid rF; have HGR := hid hgrow10; have HOW := hid hown10; have HAT := hid hat10; clear rF hgrow10 hown10 hat10))
    go_end0
    have hyb : ∀ z, (Value.slice ya ents.length yc).ownBlock = some z → N ≤ z ∧ z < w.heap.size := fun z hz => ho.lt z hz
    have hby : ¬ gn = FB := fun e => by
      rcases HAT.out with h | h
      · exact hne (h.trans (by rw [e]))
      · omega
    refine ⟨rfl, .slice (some ⟨gn, 0, none⟩) (ents.length + 1) cap, HRF.out.set 0 (by simp) _, ?_, ?_, ?_, fun b hb hbn hbo => ?_⟩
    · rw [List.length_append, List.map_append]
      exact ownsRow_setCell_other HOW.out (by simpa [Value.ownBlock] using hby) _
    · rcases HAT.out with h | h
      · exact .inl h.symm
      · exact .inr ⟨gn, rfl, by omega⟩
    · exact (((HB.out.alloc (Nat.le_trans hNw HB.out.size) _).trans (grown_below HGR.out (Nat.le_trans hNw (by simp <;> omega)) (fun z hz => (hyb z hz).1))).setCell hNF _)
    · rw [Below.heap_setCell _ _ _ _ hbn, HGR.out.block b (by simp; omega) hbo, heap_alloc_old _ _ (by simp; omega)]
      exact HG.out b hb hbn
  · rw [if_neg hk]
    have hkb : (k == 2) = false := by simp [hk]
    go_enter Tryz.func156, Tryz.ntmps156
    go_wp2
    go_end0
    exact ⟨rfl, _, HR.out, HO.out, .inl rfl, HB.out, fun b hb hbn _ => HG.out b hb hbn⟩
end Go.Proofs.YtnmaknnnmjfhkagGreatDoor

namespace Go.Proofs.YtnmaknnnmjfhkagGreatDoor
open Go.RowKit
set_option maxRecDepth 4000
set_option linter.unusedVariables false
set_option linter.unusedSimpArgs false
set_option maxHeartbeats 16000000 in
theorem goes_i (wk wl wm : Int) (wp : ByteArray) (k l m : Int) (p : ByteArray) (w : World) : Calls Tryz.prog 154 #[pageV wk wl wm wp, pageV k l m p] w fun e w' => e = .returned (.bool (goesP wk wl k l)) ∧ Below w.heap.size w w' := by
  have hb2 : ∀ o1 o2, Below w.heap.size w ((w.alloc o1).alloc o2) := fun o1 o2 => ((Below.refl _ _).alloc (Nat.le_refl _) _).alloc (by simp) _
  rw [← goes_eq]
  obtain ⟨B, hB⟩ : ∃ B, goesI wk wl k l = B := ⟨_, rfl⟩
  have HB := hid hB
  rw [hB]
  clear hB
  by_cases h12 : k = 1 ∨ k = 2
  · by_cases hl : l = wl
    · have e : B = true := by rw [← HB.out]; unfold goesI; rw [if_pos h12]; simp [hl]
      subst e
      subst hl
      clear HB
      rcases h12 with rfl | rfl <;> (go_enter Tryz.func154, Tryz.ntmps154; go_wp2; all_goals (go_ret; exact ⟨rfl, hb2 _ _⟩))
    · have hlb : (l == wl) = false := by simp [hl]
      by_cases hw : wk = 1
      · subst hw
        have e : B = false := by rw [← HB.out]; unfold goesI; rw [if_pos h12]; simp [hl]
        subst e
        clear HB
        rcases h12 with rfl | rfl <;> (go_enter Tryz.func154, Tryz.ntmps154; go_wp2; all_goals (go_ret; exact ⟨rfl, hb2 _ _⟩))
      · have hwb : (wk == 1) = false := by simp [hw]
        by_cases hlt : wl < l
        · have e : B = true := by rw [← HB.out]; unfold goesI; rw [if_pos h12]; simp [hw, hlt]
          subst e
          clear HB
          rcases h12 with rfl | rfl <;> (go_enter Tryz.func154, Tryz.ntmps154; go_wp2; all_goals (go_ret; exact ⟨by simp [hlt], hb2 _ _⟩))
        · have e : B = false := by rw [← HB.out]; unfold goesI; rw [if_pos h12]; simp [hw, hlt, hl]
          subst e
          clear HB
          rcases h12 with rfl | rfl <;> (go_enter Tryz.func154, Tryz.ntmps154; go_wp2; all_goals (go_ret; exact ⟨by simp [hlt], hb2 _ _⟩))
  · have hk1 : ¬ k = 1 := fun e => h12 (.inl e)
    have hk2 : ¬ k = 2 := fun e => h12 (.inr e)
    have hk1b : (k == 1) = false := by simp [hk1]
    have hk2b : (k == 2) = false := by simp [hk2]
    by_cases h3 : k = 3
    · subst h3
      by_cases hle : wl ≤ l
      · by_cases hw : wk = 1
        · subst hw
          have e : B = false := by rw [← HB.out]; unfold goesI; simp
          subst e
          clear HB h12
          go_enter Tryz.func154, Tryz.ntmps154
          go_wp2
          all_goals (go_ret; exact ⟨rfl, hb2 _ _⟩)
        · have hwb : (wk == 1) = false := by simp [hw]
          have e : B = true := by rw [← HB.out]; unfold goesI; simp [hw, hle]
          subst e
          clear HB h12
          go_enter Tryz.func154, Tryz.ntmps154
          go_wp2
          all_goals (go_ret; exact ⟨rfl, hb2 _ _⟩)
      · have e : B = false := by rw [← HB.out]; unfold goesI; simp [hle]
        subst e
        clear HB h12
        go_enter Tryz.func154, Tryz.ntmps154
        go_wp2
        all_goals (go_ret; exact ⟨rfl, hb2 _ _⟩)
    · have hk3b : (k == 3) = false := by simp [h3]
      have e : B = false := by rw [← HB.out]; unfold goesI; rw [if_neg h12, if_neg h3]
      subst e
      clear HB h12
      go_enter Tryz.func154, Tryz.ntmps154
      go_wp2
      all_goals (go_ret; exact ⟨rfl, hb2 _ _⟩)
theorem there_i (n : Nat) (f s : Int) (hn : n ≤ 1048576) (hf0 : -9223372036854775808 ≤ f) (hf1 : f ≤ 9223372036854775807) (w : World) : Calls Tryz.prog 152 #[.int .i64 (n : Int), .int .i64 f, .int .i64 s] w fun e w' => e = .returned (.bool (decide (0 ≤ f ∧ 0 ≤ s ∧ s ≤ (n : Int) - f))) ∧ w' = w := by
  by_cases h1 : 0 ≤ f
  · have hw : IntKind.i64.wrap ((n : Int) - f) = (n : Int) - f := by simp [IntKind.wrap, IntKind.bits, IntKind.signed]; omega
    by_cases h2 : 0 ≤ s
    · by_cases h3 : s ≤ (n : Int) - f
      · have e : decide (0 ≤ f ∧ 0 ≤ s ∧ s ≤ (n : Int) - f) = true := decide_eq_true ⟨h1, h2, h3⟩
        rw [e]
        go_enter Tryz.func152, Tryz.ntmps152
        go_wp2
        go_ret
        exact ⟨by simp [h3], rfl⟩
      · have e : decide (0 ≤ f ∧ 0 ≤ s ∧ s ≤ (n : Int) - f) = false := decide_eq_false (fun h => h3 h.2.2)
        rw [e]
        go_enter Tryz.func152, Tryz.ntmps152
        go_wp2
        go_ret
        exact ⟨by simp [h3], rfl⟩
    · have e : decide (0 ≤ f ∧ 0 ≤ s ∧ s ≤ (n : Int) - f) = false := decide_eq_false (fun h => h2 h.2.1)
      rw [e]
      go_enter Tryz.func152, Tryz.ntmps152
      go_wp2
      go_ret
      exact ⟨rfl, rfl⟩
  · have e : decide (0 ≤ f ∧ 0 ≤ s ∧ s ≤ (n : Int) - f) = false := decide_eq_false (fun h => h1 h.1)
    rw [e]
    go_enter Tryz.func152, Tryz.ntmps152
    go_wp2
    go_ret
    exact ⟨rfl, rfl⟩
end Go.Proofs.YtnmaknnnmjfhkagGreatDoor

namespace Go.Proofs.YtnmaknnnmjfhkagGreatDoor
open Go.RowKit
set_option linter.unusedVariables false
set_option linter.unusedSimpArgs false
set_option maxRecDepth 8000
set_option maxHeartbeats 16000000 in
theorem left_i (W S L T H F R U O : Int) (a : Option Addr) (n c : Nat) (w : World) (hU : 0 ≤ U) (hU1 : U ≤ 100000) :
    Calls Tryz.prog 67 #[storeV W S L T H F R U O a n c] w fun e w' => e = .returned (.int .i64 (hv S - U)) ∧ Below w.heap.size w w' := by
  have hQ : 0 ≤ hv S ∧ hv S ≤ 99 := by by_cases h : 8 ≤ S ∧ S ≤ 200; have := hv_yes h; omega; rw [hv_no h]; omega
  have HH := hid (fun w' => halves_i S w')
  obtain ⟨Q, HQ⟩ : ∃ Q, Hid (Q = hv S) := ⟨_, hid rfl⟩
  rw [← HQ.out] at hQ HH ⊢
  have hw : IntKind.i64.wrap (Q - U) = Q - U := by simp [IntKind.wrap, IntKind.bits, IntKind.signed]; omega
  unfold storeV
  go_enter Tryz.func67, Tryz.ntmps67
  go_wp2_with fail
  refine wp_region_held_drew (S := fun w' => w'.cell? ⟨w.heap.size, 1, none⟩ = some (.int .i64 S) ∧ w'.cell? ⟨w.heap.size, 7, none⟩ = some (.int .i64 U)) (by kernel_rfl) (⟨by go_simp, by go_simp⟩) (fun hHeld => ?_)
  refine TK (i := 0) (v := .pointer (some ⟨w.heap.size, 1, none⟩)) rfl (Or.inl ⟨by rfl, fun w hw => by obtain ⟨z0, z1⟩ := hw; go_simp⟩) hHeld ?_
  simp only [PS]
  refine TK (i := 1) (v := .int .i64 S) rfl (Or.inl ⟨by rfl, fun w hw => by obtain ⟨z0, z1⟩ := hw; go_simp⟩) hHeld ?_
  simp only [PS]
  refine TK (i := 3) (v := .pointer (some ⟨w.heap.size, 7, none⟩)) rfl (Or.inl ⟨by rfl, fun w hw => by obtain ⟨z0, z1⟩ := hw; go_simp⟩) hHeld ?_
  simp only [PS]
  refine TK (i := 4) (v := .int .i64 U) rfl (Or.inl ⟨by rfl, fun w hw => by obtain ⟨z0, z1⟩ := hw; go_simp⟩) hHeld ?_
  simp only [PS]
  refine wpAnyH_ready (rs := [2]) (by kernel_rfl) (by simp) ?_
  refine AllReadyH.cons rfl (fun K hK => ?_) AllReadyH.nil
  refine step_call (by rfl) 64 #[.int .i64 S] (by go_simp) (HH.out _) ?_
  rintro e wz ⟨rfl, rfl⟩
  refine ⟨_, rfl, ?_⟩
  refine hK.out _ _ hHeld (fun _ => ?_)
  clear hK K
  try simp only [PS]
  refine TK (i := 5) (v := .int .i64 (Q - U)) rfl (Or.inl ⟨by rfl, fun w hw => by obtain ⟨z0, z1⟩ := hw; go_simp⟩) hHeld ?_
  simp only [PS]
  refine wpAnyH_ready (rs := [6]) (by kernel_rfl) (by simp) ?_
  refine AllReadyH.cons rfl (fun K hK => ?_) AllReadyH.nil
  go_simp
  refine hK.out _ _ hHeld (fun _ => ?_)
  clear hK K
  try simp only [PS]
  refine wpAnyH_done (by kernel_rfl) ?_ _
  go_wp2
  go_ret
  exact ⟨rfl, ((Below.refl _ _).alloc (Nat.le_refl _) _).drew⟩
end Go.Proofs.YtnmaknnnmjfhkagGreatDoor
