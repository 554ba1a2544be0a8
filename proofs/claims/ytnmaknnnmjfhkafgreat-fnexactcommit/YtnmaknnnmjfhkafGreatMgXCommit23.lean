import Derived.Test.YtnmaknnnmjfhkafGreatMgXCommit4
import Derived.Test.YtnmaknnnmjfhkafGreatMgXCommit18
import Derived.Test.YtnmaknnnmjfhkafGreatMgXCommit5
import Derived.Test.YtnmaknnnmjfhkafGreatMgXCommit0
import Derived.Test.YtnmaknnnmjfhkafGreatProg
import Derived.Test.YtnmaknnnmjfhkafGreatMgXCommit10
import Derived.WalkKit
import Derived.WalkSpells
import Derived.WalkLawsBesides
import Derived.Outline
import Derived.BigQuiet
import Derived.Deep.QuietTactic
import Derived.Deep.RegionHeld3

set_option maxHeartbeats 16000000
set_option maxRecDepth 8000
namespace Go.Proofs.YtnmaknnnmjfhkafGreat
open Go.RowKit
set_option maxRecDepth 4000
set_option linter.unusedVariables false
set_option linter.unusedSimpArgs false
@[reducible] def rootV (t h f l : Int) : Value := .agg #[.int .i64 t, .int .i64 h, .int .i64 f, .int .i64 l]
/-- What a root may have as Half and First. -/
abbrev rtOk (h f : Int) : Prop := 0 ≤ h ∧ h ≤ 1 ∧ 1 ≤ f ∧ f ≤ 999999000
def rtPart (h f : Int) : ByteArray := strOfNums (be 1 h) ++ strOfNums (be 4 f)
def rtForm (t h f l n : Int) : ByteArray := if rtOk h f then formOf 4 l t (rtPart h f) n else ByteArray.empty

theorem half_i (h : Int) (w : World) : Calls Tryz.prog 98 #[.int .i64 h] w fun e w' => e = .returned (.bool (decide (0 ≤ h ∧ h ≤ 1))) ∧ w' = w := by
  have hh : decide (0 ≤ h ∧ h ≤ 1) = (decide (h = 0) || decide (h = 1)) := by rw [Bool.eq_iff_iff]; simp; omega
  rw [hh]
  go_enter Tryz.func98, Tryz.ntmps98
  by_cases h1 : h = 0
  · subst h1; go_wp2; go_ret; exact ⟨rfl, rfl⟩
  · by_cases h2 : h = 1
    · subst h2; go_wp2; go_ret; exact ⟨rfl, rfl⟩
    · go_wp2; go_ret; simp [h1, h2]
theorem first_i (f : Int) (w : World) : Calls Tryz.prog 99 #[.int .i64 f] w fun e w' => e = .returned (.bool (decide (1 ≤ f ∧ f ≤ 999999000))) ∧ w' = w := by
  go_enter Tryz.func99, Tryz.ntmps99
  by_cases h1 : 1 ≤ f <;> by_cases h2 : f ≤ 999999000 <;> (go_wp2; go_ret; simp [h1, h2])

theorem rootpage_s_no (t h f l n : Int) (w : World) (hno : ¬ rtOk h f) : Calls Tryz.prog 61 #[rootV t h f l, .int .i64 n] w fun e w' => e = .returned (.string ByteArray.empty) ∧ Below w.heap.size w w' := by
  have hb0 : ∀ o, Below w.heap.size w (w.alloc o) := fun o => (Below.refl _ _).alloc (Nat.le_refl _) _
  unfold rtOk at hno
  go_enter Tryz.func61, Tryz.ntmps61
  by_cases h1 : 0 ≤ h <;> by_cases h2 : h ≤ 1 <;> by_cases h3 : 1 ≤ f <;> by_cases h4 : f ≤ 999999000 <;> first | (exfalso; omega) | (clear hno; go_wp2; go_ret; exact ⟨rfl, hb0 _⟩)

set_option maxHeartbeats 16000000 in
theorem rootpage_s_ok (t h f l n : Int) (w : World) (hok : rtOk h f) : Calls Tryz.prog 61 #[rootV t h f l, .int .i64 n] w fun e w' => e = .returned (.string (formOf 4 l t (rtPart h f) n)) ∧ Below w.heap.size w w' := by
  obtain ⟨h1, h2, h3, h4⟩ := hok
  obtain ⟨A, hA⟩ : ∃ A, strOfNums (be 1 h) = A := ⟨_, rfl⟩
  obtain ⟨B, hB⟩ : ∃ B, strOfNums (be 4 f) = B := ⟨_, rfl⟩
  have zA : A.size = 1 := by rw [← hA, strOfNums_size, be_length]
  have zB : B.size = 4 := by rw [← hB, strOfNums_size, be_length]
  have HP : Hid (rtPart h f = A ++ B) := by show _ = _; unfold rtPart; rw [hA, hB]
  have numA := fun wx => num_s' h 1 1 rfl wx (by omega) (by omega) (by omega)
  have numB := fun wx => num_s' f 4 4 rfl wx (by omega) (by omega) (by omega)
  simp only [hA] at numA
  simp only [hB] at numB
  rw [HP.out]
  have hz : (A ++ B).size ≤ 1048576 := by simp only [ByteArray.size_append]; omega
  go_enter Tryz.func61, Tryz.ntmps61
  go_wp2_with fail
  have hS : w.heap.size < (w.alloc (.cells #[.int .i64 t, .int .i64 h, .int .i64 f, .int .i64 l] 30)).heap.size ∧ (w.alloc (.cells #[.int .i64 t, .int .i64 h, .int .i64 f, .int .i64 l] 30)).cell? ⟨w.heap.size, 0, none⟩ = some (.int .i64 t) ∧ (w.alloc (.cells #[.int .i64 t, .int .i64 h, .int .i64 f, .int .i64 l] 30)).cell? ⟨w.heap.size, 1, none⟩ = some (.int .i64 h) ∧ (w.alloc (.cells #[.int .i64 t, .int .i64 h, .int .i64 f, .int .i64 l] 30)).cell? ⟨w.heap.size, 2, none⟩ = some (.int .i64 f) ∧ (w.alloc (.cells #[.int .i64 t, .int .i64 h, .int .i64 f, .int .i64 l] 30)).cell? ⟨w.heap.size, 3, none⟩ = some (.int .i64 l) ∧ Below w.heap.size w (w.alloc (.cells #[.int .i64 t, .int .i64 h, .int .i64 f, .int .i64 l] 30)) := ⟨by simp, by simp, by simp, by simp, by simp, (Below.refl _ _).alloc (Nat.le_refl _) _⟩
  have HS := hide hS
  clear hS
  go_region_held3 (fun w' => w.heap.size < w'.heap.size ∧ w'.cell? ⟨w.heap.size, 0, none⟩ = some (.int .i64 t) ∧ w'.cell? ⟨w.heap.size, 1, none⟩ = some (.int .i64 h) ∧ w'.cell? ⟨w.heap.size, 2, none⟩ = some (.int .i64 f) ∧ w'.cell? ⟨w.heap.size, 3, none⟩ = some (.int .i64 l) ∧ Below w.heap.size w w')
    (first | assumption | exact keep4 (below_drewN (Below.refl _ _) 1) HS.out | exact keep4 (by assumption) (by assumption))
    (first | (go_at_call_of 95 h; refine (numA _).mono ?_; rintro e w2 ⟨rfl, hb2⟩) | (go_at_call_of 95 f; refine (numB _).mono ?_; rintro e w3 ⟨rfl, hb3⟩) | (go_at_call 59; refine (form_s_any 4 l t (A ++ B) n _ hz).mono ?_; rintro e w4 ⟨rfl, hb4⟩))
  rename_i hSl
  have hbl := hSl.2.2.2.2.2
  clear hSl
  go_wp2
  go_ret
  exact ⟨rfl, hbl⟩
theorem rootpage_s_any (t h f l n : Int) (w : World) : Calls Tryz.prog 61 #[rootV t h f l, .int .i64 n] w fun e w' => e = .returned (.string (rtForm t h f l n)) ∧ Below w.heap.size w w' := by
  unfold rtForm
  by_cases hok : rtOk h f
  · rw [if_pos hok]; exact rootpage_s_ok t h f l n w hok
  · rw [if_neg hok]; exact rootpage_s_no t h f l n w hok

end Go.Proofs.YtnmaknnnmjfhkafGreat

namespace Go.Proofs.YtnmaknnnmjfhkafGreat
open Go.RowKit
set_option maxRecDepth 4000
set_option linter.unusedVariables false

/-- The decimal digits of a number, as bytes. -/
def digs (k : Nat) : List Int := if h : k = 0 then [] else digs (k / 10) ++ [48 + ((k % 10 : Nat) : Int)]
theorem digs_zero : digs 0 = [] := by unfold digs; simp
theorem digs_pos (k : Nat) (h : k ≠ 0) : digs k = digs (k / 10) ++ [48 + ((k % 10 : Nat) : Int)] := by
  conv => lhs; unfold digs
  simp [h]
theorem digs_length : ∀ (n k : Nat), k ≤ n → (digs k).length ≤ k
  | 0, k, h => by rw [show k = 0 by omega, digs_zero]; simp
  | n + 1, k, h => by
    by_cases hk : k = 0
    · rw [hk, digs_zero]; simp
    · rw [digs_pos k hk, List.length_append]
      have := digs_length n (k / 10) (by omega)
      simp; omega
/-- The text that marks a place. -/
def mtext (k : Nat) : ByteArray := ⟨#[109]⟩ ++ strOfNums (digs k)

set_option maxHeartbeats 16000000 in
theorem mark_text (k : Nat) (w : World) (h0 : 0 < k) (h1 : k ≤ 100000000) :
    Calls Tryz.prog 54 #[.int .i64 (k : Int)] w fun e w' => e = .returned (.string (mtext k)) ∧ Below w.heap.size w w' := by
  have hb1 := bytes1
  have h0' : (0 : Int) < (k : Int) := by omega
  have HD0 := hid (digs_length k k (Nat.le_refl _))
  go_enter Tryz.func54, Tryz.ntmps54
  go_wp2
  go_loopw [0, 3] (fun x o wr => ∃ (j : Nat) (r : List Int), j ≤ 100000000 ∧ r.length ≤ 100000000 ∧ x = .int .i64 (j : Int) ∧ o = .string (strOfNums r) ∧ Hid (digs k = digs j ++ r) ∧ Below w.heap.size w wr) (fun x _ _ => (intOf x).toNat)
  case atStart => exact ⟨k, [], h1, by simp, rfl, rfl, hid (by simp), Below.refl _ _⟩
  case round =>
    obtain ⟨j, r, hj, hr, rfl, rfl, HJ, hbel⟩ := hrel
    by_cases hp : 0 < j
    · have hp' : (0 : Int) < (j : Int) := by omega
      have hz1 : (strOfNums [48 + (j : Int) % 10]).size ≤ 1 := by rw [strOfNums_size]; simp
      have hz2 : (strOfNums r).size ≤ 100000000 := by rw [strOfNums_size]; exact hr
      have HN : Hid (digs k = digs (j / 10) ++ ((48 + (j : Int) % 10) :: r)) := by
        show _ = _
        rw [HJ.out, digs_pos j (by omega)]
        simp
      have HLN : Hid (((48 + (j : Int) % 10) :: r).length ≤ 100000000) := by
        have h1 := congrArg List.length HN.out
        have h2 := HD0.out
        rw [List.length_append] at h1
        show _ ≤ _
        omega
      go_wp2
      go_roundw
      case rel => exact ⟨j / 10, _, by omega, HLN.out, by go_num, by rw [← strOfNums_append]; rfl, HN, hbel.alloc hbel.size _⟩
      case measure => simp [intOf]; omega
    · have hz2 : (strOfNums r).size ≤ 100000000 := by rw [strOfNums_size]; exact hr
      have hj0 : Hid (j = 0) := by show _ = _; omega
      have hnp : ¬ ((0 : Int) < (j : Int)) := by omega
      go_wp2
      go_ret
      refine ⟨ret_str ?_, hbel⟩
      unfold mtext
      rw [HJ.out, hj0.out, digs_zero]
      rfl
theorem mark_text' (ki : Int) (k : Nat) (hki : ki = (k : Int)) (w : World) (h0 : 0 < k) (h1 : k ≤ 100000000) :
    Calls Tryz.prog 54 #[.int .i64 ki] w fun e w' => e = .returned (.string (mtext k)) ∧ Below w.heap.size w w' := by
  subst hki; exact mark_text k w h0 h1
end Go.Proofs.YtnmaknnnmjfhkafGreat

namespace Go.Proofs.YtnmaknnnmjfhkafGreat
open Go.RowKit
set_option maxRecDepth 4000
set_option linter.unusedVariables false

theorem info_pr : (Tryz.prog.info? 127).map (fun i => (i.zero, i.size, i.bytes)) = some (some (.agg #[.string ByteArray.empty, .string ByteArray.empty]), 2, 32) := by kernel_rfl
set_option maxHeartbeats 16000000 in
theorem sz_pr (s0 : ByteArray) (s1 : ByteArray) (left : Int) (w : World) (h0 : 0 ≤ left) (h1 : left ≤ 1048576) (hs0 : s0.size ≤ 9223372036854775807) (hs1 : s1.size ≤ 9223372036854775807) :
    Calls Tryz.prog 93 #[.agg #[.string s0, .string s1], .int .i64 left] w fun e w' => e = .returned (.int .i64 (szL [s0.size, s1.size] left)) ∧ Below w.heap.size w w' := by
  by_cases c0 : left - (s0.size : Int) < 0
  · have HE : szL [s0.size, s1.size] left = -1 := by simp [szL, c0]
    go_enter Tryz.func93, Tryz.ntmps93
    go_wp2
    go_ret
    exact ⟨ret_int (by first | rfl | exact HE.symm), (Below.refl _ _).alloc (Nat.le_refl _) _⟩
  · by_cases c1 : left - (s0.size : Int) - (s1.size : Int) < 0
    · have HE : szL [s0.size, s1.size] left = -1 := by simp [szL, c0, c1]
      go_enter Tryz.func93, Tryz.ntmps93
      go_wp2
      go_ret
      exact ⟨ret_int (by first | rfl | exact HE.symm), (Below.refl _ _).alloc (Nat.le_refl _) _⟩
    · have HE : szL [s0.size, s1.size] left = left - (s0.size : Int) - (s1.size : Int) := by simp [szL, c0, c1]
      go_enter Tryz.func93, Tryz.ntmps93
      go_wp2
      go_ret
      exact ⟨ret_int (by first | rfl | exact HE.symm), (Below.refl _ _).alloc (Nat.le_refl _) _⟩

set_option maxHeartbeats 16000000 in
theorem sz_prs (a : Option Addr) (rs : List (ByteArray × ByteArray)) (c : Nat) (left : Int) (w : World) (h : Prs w a rs) (h0 : 0 ≤ left) (h1 : left ≤ 1048576) (hl : rs.length ≤ maxLen) (hs : ∀ s ∈ rs, s.1.size ≤ maxLen ∧ s.2.size ≤ maxLen) :
    Calls Tryz.prog 55 #[.slice a rs.length c, .int .i64 left] w fun e w' => e = .returned (.int .i64 (szL (rs.length :: rs.flatMap prsz) left)) ∧ Below w.heap.size w w' := by
  unfold maxLen at hl
  by_cases hn : left - (rs.length : Int) < 0
  · have HR := hid (szL_cons_lt (rs.flatMap prsz) hn)
    go_enter Tryz.func55, Tryz.ntmps55
    go_wp2
    go_ret
    exact ⟨ret_int HR.out.symm, Below.refl _ _⟩
  · have HR := hid (szL_cons_ge (rs.flatMap prsz) hn)
    obtain ⟨R, HE⟩ : ∃ R, Hid (R = szL (rs.length :: rs.flatMap prsz) left) := ⟨_, hid rfl⟩
    rw [← HE.out]
    go_enter Tryz.func55, Tryz.ntmps55
    go_wp2
    go_loopw [1, 5] (fun x i wr => ∃ (k : Nat) (y : Int), k ≤ rs.length ∧ i = .int .i64 k ∧ x = .int .i64 y ∧ 0 ≤ y ∧ y ≤ 1048576 ∧ Hid (szL ((rs.drop k).flatMap prsz) y = R) ∧ Below w.heap.size w wr) (fun _ i _ => rs.length - (intOf i).toNat)
    case atStart => exact ⟨0, _, Nat.zero_le _, rfl, rfl, by omega, by omega, by show _ = _; rw [HE.out, HR.out, List.drop_zero], Below.refl _ _⟩
    case round =>
      obtain ⟨k, y, hk, rfl, rfl, hy0, hy1, HZ, hbel⟩ := hrel
      by_cases hlt : k < rs.length
      · obtain ⟨b, o, s0, s1, rfl, hc0, hc1, HS⟩ := (h.below hbel).at hlt
        obtain ⟨q0, q1⟩ : s0.size ≤ 9223372036854775807 ∧ s1.size ≤ 9223372036854775807 := by
          have := hs (s0, s1) (by rw [HS.out]; simp [List.getD, hlt])
          unfold maxLen at this; exact this
        obtain ⟨y', HY⟩ : ∃ y', Hid (y' = szL [s0.size, s1.size] y) := ⟨_, hid rfl⟩
        have hbd := szL_bd [s0.size, s1.size] y hy0
        rw [← HY.out] at hbd
        have HD : Hid (szL ((rs.drop k).flatMap prsz) y = szL ([s0.size, s1.size] ++ (rs.drop (k + 1)).flatMap prsz) y) := by
          show _ = _
          rw [drop_at rs k (ByteArray.empty, ByteArray.empty) hlt, ← HS.out]
          rfl
        by_cases hy : y' < 0
        · have hy2 : y' = -1 := by omega
          have HN := hid (szL_append_no [s0.size, s1.size] ((rs.drop (k + 1)).flatMap prsz) y hy0 (by rw [← HY.out]; exact hy))
          clear hbd
          subst hy2
          go_wp2_with (go_at_call 93; refine (sz_pr s0 s1 y _ hy0 hy1 q0 q1).mono ?_; rw [← HY.out]; rintro e w2 ⟨rfl, hb2⟩)
          go_ret
          refine ⟨ret_int ?_, hbel.trans (hb2.mono hbel.size)⟩
          rw [← HZ.out, HD.out, HN.out]
        · have hy2 : 0 ≤ y' := by omega
          have hy3 : y' ≤ 1048576 := by omega
          have HN := hid (szL_append_yes [s0.size, s1.size] ((rs.drop (k + 1)).flatMap prsz) y hy0 (by rw [← HY.out]; exact hy2))
          clear hbd
          go_wp2_with (go_at_call 93; refine (sz_pr s0 s1 y _ hy0 hy1 q0 q1).mono ?_; rw [← HY.out]; rintro e w2 ⟨rfl, hb2⟩)
          go_roundw
          case rel => exact ⟨k + 1, _, by omega, by go_num, rfl, by omega, by omega, by show _ = _; rw [← HZ.out, HD.out, HN.out, ← HY.out], hbel.trans (hb2.mono hbel.size)⟩
          case measure => simp [intOf]; omega
      · go_wp2
        go_ret
        refine ⟨ret_int ?_, hbel⟩
        rw [← HZ.out, List.drop_of_length_le (by omega)]
        rfl

set_option maxHeartbeats 16000000 in
theorem to_pr (s0 : ByteArray) (s1 : ByteArray) (w : World) :
    Calls Tryz.prog 97 #[.agg #[.string s0, .string s1]] w fun e w' => e = .returned (.agg #[.string s0, .string s1]) ∧ Below w.heap.size w w' := by
  go_enter Tryz.func97, Tryz.ntmps97
  go_wp2
  exact bodyPost_ret (v := .agg #[.string s0, .string s1]) (by simp [results, Tryz.results97, go_sem]) rfl ⟨rfl, (((Below.refl _ _).alloc (Nat.le_refl _) _).alloc (by simp) _).alloc (by simp; omega) _⟩

set_option maxHeartbeats 16000000 in
theorem to_prs (a : Option Addr) (rs : List (ByteArray × ByteArray)) (c : Nat) (w : World) (h : Prs w a rs) (hl : rs.length ≤ 1048576) :
    Calls Tryz.prog 63 #[.slice a rs.length c] w fun e w' => ∃ g, e = .returned (.slice (some ⟨g, 0, none⟩) rs.length rs.length) ∧ w.heap.size ≤ g ∧ Row w' g (prcells rs) ∧ Below w.heap.size w w' := by
  go_enter Tryz.func63, Tryz.ntmps63
  go_wp2_with (at_make; refine wpList_make_new rfl _ _ 31 rfl 127 _ 2 _ Tryz.underlying31 info_pr rs.length rfl rfl (by omega) (by omega) ?_; intro wx hrow hbx hsx; rw [made_prs] at hrow)
  have hr0 : Row wx w.heap.size (prupTo rs 0) := by simpa [prupTo, prcells_nil] using hrow
  clear hrow
  go_loopw [4] (fun i wr => ∃ k : Nat, k ≤ rs.length ∧ i = .int .i64 k ∧ Row wr w.heap.size (prupTo rs k) ∧ Below w.heap.size w wr) (fun i _ => rs.length - (intOf i).toNat)
  case atStart => exact ⟨0, Nat.zero_le _, rfl, hr0, hbx⟩
  case round =>
    obtain ⟨k, hk, rfl, hrow, hbel⟩ := hrel
    by_cases hlt : k < rs.length
    · obtain ⟨b, o, s0, s1, rfl, hc0, hc1, HS⟩ := (h.below hbel).at hlt
      have HB := hid hbel
      have HR := hid hrow
      clear hrow hbel
      go_wp2_with (go_at_call 97; refine (to_pr s0 s1 _).mono ?_; rintro e w2 ⟨rfl, hb2⟩; have hr2 := HR.out.below hb2; have hl2 := prupTo_length rs k hk; obtain ⟨u0, hu0⟩ : ∃ u, w2.cell? ⟨w.heap.size, k * 2, none⟩ = some u := ⟨_, hr2.cell (k * 2) _ (List.getElem?_eq_getElem (by omega))⟩; obtain ⟨u1, hu1⟩ : ∃ u, w2.cell? ⟨w.heap.size, k * 2 + 1, none⟩ = some u := ⟨_, hr2.cell (k * 2 + 1) _ (List.getElem?_eq_getElem (by omega))⟩; have hf0 := hr2.froz (k * 2) (by omega); have hf1 := hr2.froz (k * 2 + 1) (by omega); have HR2 := hid hr2; have HL2 := hid hl2; clear hr2 hl2)
      have hrs := (HR2.out.set (k * 2) (by rw [HL2.out]; omega) (.string s0)).set (k * 2 + 1) (by rw [List.length_set, HL2.out]; omega) (.string s1)
      have hus : ((prupTo rs k).set (k * 2) (.string s0)).set (k * 2 + 1) (.string s1) = prupTo rs (k + 1) := by
        have e := HS.out
        rw [show s0 = (rs.getD k (ByteArray.empty, ByteArray.empty)).1 by rw [← e], show s1 = (rs.getD k (ByteArray.empty, ByteArray.empty)).2 by rw [← e]]
        exact prupTo_set rs k hlt
      rw [hus] at hrs
      go_roundw
      case rel => exact ⟨k + 1, by omega, by go_num, hrs, ((HB.out.trans (hb2.mono HB.out.size)).setCell (Nat.le_refl _) _).setCell (Nat.le_refl _) _⟩
      case measure => simp [intOf]; omega
    · go_wp2
      go_ret
      exact ⟨w.heap.size, rfl, Nat.le_refl _, by rw [← prupTo_all rs k (by omega)]; exact hrow, hbel⟩

end Go.Proofs.YtnmaknnnmjfhkafGreat
