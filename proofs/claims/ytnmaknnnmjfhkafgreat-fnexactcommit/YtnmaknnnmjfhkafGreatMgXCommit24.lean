import Derived.Test.YtnmaknnnmjfhkafGreatProg
import Derived.Test.YtnmaknnnmjfhkafGreatMgXCommit10
import Derived.WalkKit
import Derived.WalkSpells
import Derived.WalkLawsBesides
import Derived.Outline
import Derived.BigQuiet
import Derived.Deep.QuietTactic
import Derived.Deep.RegionHeld3
import Derived.Test.YtnmaknnnmjfhkafGreatMgXCommit23
import Derived.Test.YtnmaknnnmjfhkafGreatMgXCommit7

set_option maxHeartbeats 16000000
set_option maxRecDepth 8000
namespace Go.Proofs.YtnmaknnnmjfhkafGreat
open Go.RowKit
set_option maxRecDepth 4000
set_option linter.unusedVariables false

set_option maxHeartbeats 16000000 in
theorem eq_pr (s0 : ByteArray) (s1 : ByteArray) (w : World) :
    Calls Tryz.prog 105 #[.agg #[.string s0, .string s1], .agg #[.string s0, .string s1]] w fun e w' => e = .returned (.bool true) ∧ Below w.heap.size w w' := by
  go_enter Tryz.func105, Tryz.ntmps105
  go_wp2
  go_ret
  exact ⟨rfl, ((Below.refl _ _).alloc (Nat.le_refl _) _).alloc (by simp) _⟩

set_option maxHeartbeats 16000000 in
theorem eq_prs (a b : Option Addr) (rs : List (ByteArray × ByteArray)) (c c' : Nat) (w : World) (h : Prs w a rs) (h' : Prs w b rs) (hl : rs.length ≤ 1048576) :
    Calls Tryz.prog 75 #[.slice a rs.length c, .slice b rs.length c'] w fun e w' => e = .returned (.bool true) ∧ Below w.heap.size w w' := by
  go_enter Tryz.func75, Tryz.ntmps75
  go_wp2
  go_loopw [5] (fun i wr => ∃ k : Nat, k ≤ rs.length ∧ i = .int .i64 k ∧ Below w.heap.size w wr) (fun i _ => rs.length - (intOf i).toNat)
  case atStart => exact ⟨0, Nat.zero_le _, rfl, Below.refl _ _⟩
  case round =>
    obtain ⟨k, hk, rfl, hbel⟩ := hrel
    by_cases hlt : k < rs.length
    · obtain ⟨b1, o1, s0, s1, rfl, hc0, hc1, HS⟩ := (h.below hbel).at hlt
      obtain ⟨b2, o2, s0x, s1x, rfl, hd0, hd1, HS'⟩ := (h'.below hbel).at hlt
      obtain ⟨rfl, rfl⟩ : s0 = s0x ∧ s1 = s1x := by have := HS.out.trans HS'.out.symm; simpa using this
      have hk1 : (k : Int) < (rs.length : Int) := by omega
      have hk0 : (0 : Int) ≤ (k : Int) := by omega
      have lt1 : b1 < wr.heap.size := by have := World.block_lt_of_cell? wr _ hc0; simpa using this
      have lt2 : b2 < wr.heap.size := by have := World.block_lt_of_cell? wr _ hd0; simpa using this
      have HQ : Hid (wr.cell? ⟨b1, o1 + k * 2, none⟩ = some (.string s0) ∧ wr.cell? ⟨b1, o1 + k * 2 + 1, none⟩ = some (.string s1) ∧ wr.cell? ⟨b2, o2 + k * 2, none⟩ = some (.string s0) ∧ wr.cell? ⟨b2, o2 + k * 2 + 1, none⟩ = some (.string s1)) := ⟨hc0, hc1, hd0, hd1⟩
      clear HS HS' hc0 hc1 hd0 hd1
      go_wp2_with fail
      go_region_held3 (fun w' => w'.cell? ⟨b1, o1 + k * 2, none⟩ = some (.string s0) ∧ w'.cell? ⟨b1, o1 + k * 2 + 1, none⟩ = some (.string s1) ∧ w'.cell? ⟨b2, o2 + k * 2, none⟩ = some (.string s0) ∧ w'.cell? ⟨b2, o2 + k * 2 + 1, none⟩ = some (.string s1))
        (first | assumption | exact HQ.out | exact ⟨(hb2.cell (p := ⟨b1, _, none⟩) lt1).trans HQ.out.1, (hb2.cell (p := ⟨b1, _, none⟩) lt1).trans HQ.out.2.1, (hb2.cell (p := ⟨b2, _, none⟩) lt2).trans HQ.out.2.2.1, (hb2.cell (p := ⟨b2, _, none⟩) lt2).trans HQ.out.2.2.2⟩)
        (first | (go_at_call 105; refine (eq_pr s0 s1 _).mono ?_; rintro e w2 ⟨rfl, hb2⟩))
      go_wp2
      go_roundw
      case rel => exact ⟨k + 1, by omega, by go_num, hbel.drew.trans (hb2.mono hbel.size)⟩
      case measure => simp [intOf]; omega
    · go_wp2
      go_ret
      exact ⟨rfl, hbel⟩
end Go.Proofs.YtnmaknnnmjfhkafGreat

namespace Go.Proofs.YtnmaknnnmjfhkafGreat
open Go.RowKit
set_option maxRecDepth 4000
set_option linter.unusedVariables false

@[reducible] def stV (a : Option Addr) (n c : Nat) : Value := .agg #[.slice a n c]
theorem bcell1 {W w1 : World} (hb : Below W.heap.size W w1) : (∀ b o, b < W.heap.size → w1.cell? ⟨b, o, none⟩ = W.cell? ⟨b, o, none⟩) ∧ (∀ b o, b < W.heap.size → w1.frozen? ⟨b, o, none⟩ = W.frozen? ⟨b, o, none⟩) :=
  ⟨fun b o h => hb.cell (p := ⟨b, o, none⟩) h, fun b o h => hb.frozen (p := ⟨b, o, none⟩) h⟩
set_option maxHeartbeats 16000000 in
theorem sz_state (a : Option Addr) (rs : List (ByteArray × ByteArray)) (c : Nat) (w : World) (h : Prs w a rs) (left : Int) (h0 : 0 ≤ left) (h1 : left ≤ 1048576) (hl : rs.length ≤ maxLen) (hs : ∀ s ∈ rs, s.1.size ≤ maxLen ∧ s.2.size ≤ maxLen) :
    Calls Tryz.prog 20 #[stV a rs.length c, .int .i64 left] w fun e w' => e = .returned (.int .i64 (szL (rs.length :: rs.flatMap prsz) left)) ∧ Below w.heap.size w w' := by
  have hb0 : ∀ o, Below w.heap.size w (w.alloc o) := fun o => (Below.refl _ _).alloc (Nat.le_refl _) _
  have hbd := szL_bd (rs.length :: rs.flatMap prsz) left (by omega)
  obtain ⟨x, HX⟩ : ∃ x, Hid (x = szL (rs.length :: rs.flatMap prsz) left) := ⟨_, hid rfl⟩
  rw [← HX.out] at hbd ⊢
  by_cases hx : x < 0
  · have hx1 : x = -1 := by omega
    have HX1 := hid hx1
    clear hbd hx1
    go_enter Tryz.func20, Tryz.ntmps20
    go_wp2_with fail
    refine (sz_prs a rs c left _ (h.below (hb0 _)) (by omega) (by omega) hl hs).mono ?_
    rw [← HX.out]
    rintro e w1 ⟨rfl, hb1⟩
    go_wp2
    go_ret
    exact ⟨ret_int HX1.out.symm, (hb0 _).trans (hb1.mono (by simp))⟩
  · clear hbd
    go_enter Tryz.func20, Tryz.ntmps20
    go_wp2_with fail
    refine (sz_prs a rs c left _ (h.below (hb0 _)) (by omega) (by omega) hl hs).mono ?_
    rw [← HX.out]
    rintro e w1 ⟨rfl, hb1⟩
    go_wp2
    go_ret
    exact ⟨rfl, (hb0 _).trans (hb1.mono (by simp))⟩

set_option maxHeartbeats 16000000 in
theorem to_state (a : Option Addr) (rs : List (ByteArray × ByteArray)) (c : Nat) (w : World) (h : Prs w a rs) (hl : rs.length ≤ 1048576) :
    Calls Tryz.prog 24 #[stV a rs.length c] w fun e w' => ∃ g, e = .returned (stV (some ⟨g, 0, none⟩) rs.length rs.length) ∧ w.heap.size ≤ g ∧ Row w' g (prcells rs) ∧ Below w.heap.size w w' := by
  have hb0 : ∀ o1 o2 o3, Below w.heap.size w (((w.alloc o1).alloc o2).alloc o3) := fun o1 o2 o3 => (((Below.refl _ _).alloc (Nat.le_refl _) _).alloc (by simp) _).alloc (by simp; omega) _
  go_enter Tryz.func24, Tryz.ntmps24
  go_wp2_with fail
  refine (to_prs a rs c _ (h.below (hb0 _ _ _)) hl).mono ?_
  rintro e w1 ⟨g, rfl, hg, hr1, hb1⟩
  have hB1 := (hb0 _ _ _).trans (hb1.mono (by simp; omega))
  have hs1 := hb1.size
  simp only [World.size_alloc] at hg hs1
  have c20 : w1.cell? ⟨w.heap.size + 1 + 1, 0, none⟩ = some (.slice none 0 0) := (hb1.cell (p := ⟨w.heap.size + 1 + 1, 0, none⟩) (by simp)).trans (by go_simp)
  have f20 : w1.frozen? ⟨w.heap.size + 1 + 1, 0, none⟩ = false := (hb1.frozen (p := ⟨w.heap.size + 1 + 1, 0, none⟩) (by simp)).trans (by go_simp)
  have c10 : w1.cell? ⟨w.heap.size + 1, 0, none⟩ = some (.slice none 0 0) := (hb1.cell (p := ⟨w.heap.size + 1, 0, none⟩) (by simp <;> omega)).trans (by go_simp)
  have f10 : w1.frozen? ⟨w.heap.size + 1, 0, none⟩ = false := (hb1.frozen (p := ⟨w.heap.size + 1, 0, none⟩) (by simp <;> omega)).trans (by go_simp)
  have HR1 := hid hr1
  have HBB := hid hB1
  clear hb1 hr1 hB1
  go_wp2
  refine bodyPost_ret (v := stV (some ⟨g, 0, none⟩) rs.length rs.length) (by simp [results, Tryz.results24, go_sem, c10]) rfl ⟨g, rfl, by omega, ?_, ?_⟩
  · exact (HR1.out.other _ (by show w.heap.size + 1 + 1 ≠ g; omega) _).other _ (by show w.heap.size + 1 ≠ g; omega) _
  · exact (HBB.out.setCell (by show w.heap.size ≤ w.heap.size + 1 + 1; omega) _).setCell (by show w.heap.size ≤ w.heap.size + 1; omega) _

set_option maxHeartbeats 16000000 in
theorem eq_state (a b : Option Addr) (rs : List (ByteArray × ByteArray)) (c d : Nat) (w : World) (h1 : Prs w a rs) (h2 : Prs w b rs) (hl : rs.length ≤ 1048576) :
    Calls Tryz.prog 30 #[stV a rs.length c, stV b rs.length d] w fun e w' => e = .returned (.bool true) ∧ Below w.heap.size w w' := by
  have hb0 : ∀ o1 o2, Below w.heap.size w ((w.alloc o1).alloc o2) := fun o1 o2 => ((Below.refl _ _).alloc (Nat.le_refl _) _).alloc (by simp) _
  go_enter Tryz.func30, Tryz.ntmps30
  go_wp2_with fail
  refine (eq_prs a b rs c d _ (h1.below (hb0 _ _)) (h2.below (hb0 _ _)) hl).mono ?_
  rintro e w1 ⟨rfl, hb1⟩
  have hB1 := (hb0 _ _).trans (hb1.mono (by simp; omega))
  clear hb1
  go_wp2
  go_ret
  exact ⟨rfl, hB1⟩
end Go.Proofs.YtnmaknnnmjfhkafGreat

namespace Go.Proofs.YtnmaknnnmjfhkafGreat
open Go.RowKit
set_option maxRecDepth 4000
set_option linter.unusedVariables false
set_option linter.unusedSimpArgs false

theorem getxp {w : World} {g : Nat} {cs : List Value} (h : Row w g cs) (i : Nat) (hi : i < cs.length) : (∃ u, w.cell? ⟨g, i, none⟩ = some u) ∧ w.frozen? ⟨g, i, none⟩ = false := ⟨⟨_, h.cell i _ (List.getElem?_eq_getElem hi)⟩, h.froz i hi⟩
def prm (m : Nat) : ByteArray × ByteArray := (mtext m, mtext (m + 1))
def prmarks (k n : Nat) : List (ByteArray × ByteArray) := (List.range n).map fun i => prm (k + 2 * i)
theorem prmarks_length (k n : Nat) : (prmarks k n).length = n := by simp [prmarks]
theorem prmarks_succ (k n : Nat) : prmarks k (n + 1) = prmarks k n ++ [prm (k + 2 * n)] := by simp [prmarks, List.range_succ]
def prmixed (k i : Nat) (rs : List (ByteArray × ByteArray)) : List Value := prcells (prmarks k i ++ rs.drop i)
theorem prmixed_length (k i : Nat) (rs : List (ByteArray × ByteArray)) (h : i ≤ rs.length) : (prmixed k i rs).length = rs.length * 2 := by simp [prmixed, prcells_length, prmarks_length]; omega
theorem prmixed_set (k i : Nat) (rs : List (ByteArray × ByteArray)) (h : i < rs.length) : ((prmixed k i rs).set (i * 2) (.string (mtext (k + 2 * i)))).set (i * 2 + 1) (.string (mtext (k + 2 * i + 1))) = prmixed k (i + 1) rs := by
  have el : (prcells (prmarks k i)).length = i * 2 := by rw [prcells_length, prmarks_length]
  unfold prmixed
  rw [prmarks_succ, drop_at rs i (ByteArray.empty, ByteArray.empty) h, prcells_append, prcells_append, prcells_append, List.set_append_right _ _ (by omega), List.set_append_right _ _ (by omega), el]
  simp [prcells, prm]

set_option maxHeartbeats 16000000 in
theorem mark_prs (a : Option Addr) (rs : List (ByteArray × ByteArray)) (c k : Nat) (w : World) (h : OwnS w a (prcells rs)) (hk : 0 < k) (hl : k + 2 * rs.length ≤ 100000000) :
    Calls Tryz.prog 76 #[.slice a rs.length c, .int .i64 (k : Int)] w fun e w' => e = .returned (.int .i64 ((k + 2 * rs.length : Nat) : Int)) ∧ w.grownBy w' (blk a rs.length) ∧ OwnS w' a (prcells (prmarks k rs.length)) := by
  by_cases hss : rs = []
  · skip
    subst hss
    go_enter Tryz.func76, Tryz.ntmps76
    go_wp2
    refine wp_loop_rounds 1 ?_
    rw [rounds_succ]
    go_wp2
    go_ret
    exact ⟨rfl, grown_refl _ _, .inl rfl⟩
  · obtain ⟨g, rfl, hrow⟩ := h.resolve_left (fun e => hss (by have := congrArg List.length e; rw [prcells_length, List.length_nil] at this; exact List.eq_nil_of_length_eq_zero (by omega)))
    rw [blk_pos g 0 rs.length (fun e => hss (List.eq_nil_of_length_eq_zero e))]
    have hr0 : Row w g (prmixed k 0 rs) := by simpa [prmixed, prmarks] using hrow
    clear hrow hss
    go_enter Tryz.func76, Tryz.ntmps76
    go_wp2
    go_loopw [1, 5] (fun x i wr => ∃ j m : Nat, j ≤ rs.length ∧ i = .int .i64 (j : Int) ∧ x = .int .i64 (m : Int) ∧ Hid (m = k + 2 * j) ∧ Row wr g (prmixed k j rs) ∧ w.grownBy wr (some g)) (fun _ i _ => rs.length - (intOf i).toNat)
    case atStart => exact ⟨0, k, Nat.zero_le _, rfl, rfl, hid rfl, hr0, grown_refl _ _⟩
    case round =>
      clear hr0
      obtain ⟨j, m, hj, rfl, rfl, HM, hrow, hgr⟩ := hrel
      have HR := hid hrow
      have HG := hid hgr
      clear hgr hrow
      by_cases hlt : j < rs.length
      · have HL := hid (prmixed_length k j rs hj)
        have hmj : (m : Int) ≤ 99999998 := by have := HM.out; omega
        have hmj0 : (0 : Int) < (m : Int) := by have := HM.out; omega
        go_wp2_with (first | (have _g := HR2; go_at_call 54; refine (mark_text' ((m : Int) + 1) (m + 1) (by omega) _ (by omega) (by omega)).mono ?_; rintro e w3 ⟨rfl, hb3⟩; have HR3 := hid ((HR2.out.set (j * 2) (by rw [HL.out]; omega) (.string (mtext m))).below hb3); have hu3 := getxp HR3.out (j * 2 + 1) (by rw [List.length_set, HL.out]; omega); obtain ⟨⟨u3, hu3⟩, hf3⟩ := hu3; have HG3 := hid (grown_trans (grown_set HG2.out _ _) (grown_of_below _ hb3)); clear hb3) | (go_at_call 54; refine (mark_text m _ (by omega) (by omega)).mono ?_; rintro e w2 ⟨rfl, hb2⟩; have HR2 := hid (HR.out.below hb2); have hu2 := getxp HR2.out (j * 2) (by rw [HL.out]; omega); obtain ⟨⟨u2, hu2⟩, hf2⟩ := hu2; have HG2 := hid (grown_trans HG.out (grown_of_below _ hb2)); clear hb2))
        have hset : ((prmixed k j rs).set (j * 2) (.string (mtext m))).set (j * 2 + 1) (.string (mtext (m + 1))) = prmixed k (j + 1) rs := by
          rw [HM.out]; exact prmixed_set k j rs hlt
        refine ⟨⟨j + 1, m + 2, by omega, by go_num, by go_num, by show _ = _; have := HM.out; omega, ?_, grown_set HG3.out _ _⟩, by simp [intOf]; omega⟩
        rw [← hset]
        exact HR3.out.set (j * 2 + 1) (by rw [List.length_set, HL.out]; omega) _
      · have hjl : Hid (j = rs.length) := by show _ = _; omega
        go_wp2
        go_ret
        refine ⟨ret_int (by rw [HM.out, hjl.out]), HG.out, .inr ⟨g, rfl, ?_⟩⟩
        have := HR.out
        rw [hjl.out] at this
        simpa [prmixed] using this

set_option maxHeartbeats 16000000 in
theorem mark_state (a : Option Addr) (rs : List (ByteArray × ByteArray)) (c k : Nat) (w : World) (h : OwnS w a (prcells rs)) (hk : 0 < k) (hl : k + 2 * rs.length ≤ 100000000) :
    Calls Tryz.prog 31 #[stV a rs.length c, .int .i64 (k : Int)] w fun e w' => e = .returned (.int .i64 ((k + 2 * rs.length : Nat) : Int)) ∧ w.grownBy w' (blk a rs.length) ∧ OwnS w' a (prcells (prmarks k rs.length)) := by
  have hb0 : ∀ o, Below w.heap.size w (w.alloc o) := fun o => (Below.refl _ _).alloc (Nat.le_refl _) _
  go_enter Tryz.func31, Tryz.ntmps31
  go_wp2_with fail
  refine (mark_prs a rs c k _ (h.below (hb0 _)) hk hl).mono ?_
  rintro e w1 ⟨rfl, hg1, ho1⟩
  have HG := hid (grown_trans (grown_of_below (blk a rs.length) (hb0 _)) hg1)
  have HO := hid ho1
  clear hg1 ho1
  go_wp2
  go_ret
  exact ⟨rfl, HG.out, HO.out⟩

end Go.Proofs.YtnmaknnnmjfhkafGreat
