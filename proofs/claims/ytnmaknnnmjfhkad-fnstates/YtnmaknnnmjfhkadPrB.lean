import Derived.Test.YtnmaknnnmjfhkadProg
import Derived.Test.YtnmaknnnmjfhkadPrA
import Derived.WalkKit
import Derived.WalkSpells
import Derived.WalkLawsBesides
import Derived.Outline
import Derived.BigQuiet
import Derived.Deep.QuietTactic
import Derived.Deep.RegionHeld3
namespace Go.Proofs.Ytnmaknnnmjfhkad
open Go.RowKit
set_option maxRecDepth 4000
set_option linter.unusedVariables false

theorem info_pr : (Try.prog.info? 101).map (fun i => (i.zero, i.size, i.bytes)) = some (some (.agg #[.string ByteArray.empty, .string ByteArray.empty]), 2, 32) := by kernel_rfl
set_option maxHeartbeats 400000 in
theorem sz_pr (s0 : ByteArray) (s1 : ByteArray) (left : Int) (w : World) (h0 : 0 ≤ left) (h1 : left ≤ 1048576) (hs0 : s0.size ≤ 9223372036854775807) (hs1 : s1.size ≤ 9223372036854775807) :
    Calls Try.prog 125 #[.agg #[.string s0, .string s1], .int .i64 left] w fun e w' => e = .returned (.int .i64 (szL [s0.size, s1.size] left)) ∧ Below w.heap.size w w' := by
  by_cases c0 : left - (s0.size : Int) < 0
  · have HE : szL [s0.size, s1.size] left = -1 := by simp [szL, c0]
    go_enter Try.func125, Try.ntmps125
    go_wp2
    go_ret
    exact ⟨ret_int (by first | rfl | exact HE.symm), (Below.refl _ _).alloc (Nat.le_refl _) _⟩
  · by_cases c1 : left - (s0.size : Int) - (s1.size : Int) < 0
    · have HE : szL [s0.size, s1.size] left = -1 := by simp [szL, c0, c1]
      go_enter Try.func125, Try.ntmps125
      go_wp2
      go_ret
      exact ⟨ret_int (by first | rfl | exact HE.symm), (Below.refl _ _).alloc (Nat.le_refl _) _⟩
    · have HE : szL [s0.size, s1.size] left = left - (s0.size : Int) - (s1.size : Int) := by simp [szL, c0, c1]
      go_enter Try.func125, Try.ntmps125
      go_wp2
      go_ret
      exact ⟨ret_int (by first | rfl | exact HE.symm), (Below.refl _ _).alloc (Nat.le_refl _) _⟩

set_option maxHeartbeats 400000 in
theorem sz_prs (a : Option Addr) (rs : List (ByteArray × ByteArray)) (c : Nat) (left : Int) (w : World) (h : Prs w a rs) (h0 : 0 ≤ left) (h1 : left ≤ 1048576) (hl : rs.length ≤ maxLen) (hs : ∀ s ∈ rs, s.1.size ≤ maxLen ∧ s.2.size ≤ maxLen) :
    Calls Try.prog 70 #[.slice a rs.length c, .int .i64 left] w fun e w' => e = .returned (.int .i64 (szL (rs.length :: rs.flatMap prsz) left)) ∧ Below w.heap.size w w' := by
  unfold maxLen at hl
  by_cases hn : left - (rs.length : Int) < 0
  · have HR := hid (szL_cons_lt (rs.flatMap prsz) hn)
    go_enter Try.func70, Try.ntmps70
    go_wp2
    go_ret
    exact ⟨ret_int HR.out.symm, Below.refl _ _⟩
  · have HR := hid (szL_cons_ge (rs.flatMap prsz) hn)
    obtain ⟨R, HE⟩ : ∃ R, Hid (R = szL (rs.length :: rs.flatMap prsz) left) := ⟨_, hid rfl⟩
    rw [← HE.out]
    go_enter Try.func70, Try.ntmps70
    go_wp2
    go_loopw [1, 5] (fun x i wr => ∃ (k : Nat) (y : Int), k ≤ rs.length ∧ i = .int .i64 k ∧ x = .int .i64 y ∧ 0 ≤ y ∧ y ≤ 1048576 ∧ Hid (szL ((rs.drop k).flatMap prsz) y = R) ∧ Below w.heap.size w wr) (fun _ i _ => rs.length - (intOf i).toNat)
    case atStart => exact ⟨0, _, Nat.zero_le _, rfl, rfl, by omega, by omega, by show _ = _; rw [HE.out, HR.out, List.drop_zero], Below.refl _ _⟩
    case round =>
      obtain ⟨k, y, hk, rfl, rfl, hy0, hy1, HZ, hbel⟩ := hrel
      by_cases hlt : k < rs.length
      · obtain ⟨b, o, s0, s1, rfl, hc0, hc1, HS⟩ := (h.below hbel).at hlt
        obtain ⟨q0, q1⟩ : s0.size ≤ 9223372036854775807 ∧ s1.size ≤ 9223372036854775807 := by
          have := hs (s0, s1) (by rw [HS.out]; simp [List.getD, hlt])
          unfold maxLen at this; exact this
        obtain ⟨y', HY⟩ : ∃ y', Hid (y' = szL [s0.size, s1.size] y) := ⟨_, hid rfl⟩
        have hbd := szL_bd [s0.size, s1.size] y hy0
        rw [← HY.out] at hbd
        have HD : Hid (szL ((rs.drop k).flatMap prsz) y = szL ([s0.size, s1.size] ++ (rs.drop (k + 1)).flatMap prsz) y) := by
          show _ = _
          rw [drop_at rs k (ByteArray.empty, ByteArray.empty) hlt, ← HS.out]
          rfl
        by_cases hy : y' < 0
        · have hy2 : y' = -1 := by omega
          have HN := hid (szL_append_no [s0.size, s1.size] ((rs.drop (k + 1)).flatMap prsz) y hy0 (by rw [← HY.out]; exact hy))
          clear hbd
          subst hy2
          go_wp2_with (go_at_call 125; refine (sz_pr s0 s1 y _ hy0 hy1 q0 q1).mono ?_; rw [← HY.out]; rintro e w2 ⟨rfl, hb2⟩)
          go_ret
          refine ⟨ret_int ?_, hbel.trans (hb2.mono hbel.size)⟩
          rw [← HZ.out, HD.out, HN.out]
        · have hy2 : 0 ≤ y' := by omega
          have hy3 : y' ≤ 1048576 := by omega
          have HN := hid (szL_append_yes [s0.size, s1.size] ((rs.drop (k + 1)).flatMap prsz) y hy0 (by rw [← HY.out]; exact hy2))
          clear hbd
          go_wp2_with (go_at_call 125; refine (sz_pr s0 s1 y _ hy0 hy1 q0 q1).mono ?_; rw [← HY.out]; rintro e w2 ⟨rfl, hb2⟩)
          go_roundw
          case rel => exact ⟨k + 1, _, by omega, by go_num, rfl, by omega, by omega, by show _ = _; rw [← HZ.out, HD.out, HN.out, ← HY.out], hbel.trans (hb2.mono hbel.size)⟩
          case measure => simp [intOf]; omega
      · go_wp2
        go_ret
        refine ⟨ret_int ?_, hbel⟩
        rw [← HZ.out, List.drop_of_length_le (by omega)]
        rfl

set_option maxHeartbeats 400000 in
theorem to_pr (s0 : ByteArray) (s1 : ByteArray) (w : World) :
    Calls Try.prog 127 #[.agg #[.string s0, .string s1]] w fun e w' => e = .returned (.agg #[.string s0, .string s1]) ∧ Below w.heap.size w w' := by
  go_enter Try.func127, Try.ntmps127
  go_wp2
  exact bodyPost_ret (v := .agg #[.string s0, .string s1]) (by simp [results, Try.results127, go_sem]) rfl ⟨rfl, (((Below.refl _ _).alloc (Nat.le_refl _) _).alloc (by simp) _).alloc (by simp; omega) _⟩

set_option maxHeartbeats 800000 in
theorem to_prs (a : Option Addr) (rs : List (ByteArray × ByteArray)) (c : Nat) (w : World) (h : Prs w a rs) (hl : rs.length ≤ 1048576) :
    Calls Try.prog 74 #[.slice a rs.length c] w fun e w' => ∃ g, e = .returned (.slice (some ⟨g, 0, none⟩) rs.length rs.length) ∧ w.heap.size ≤ g ∧ Row w' g (prcells rs) ∧ Below w.heap.size w w' := by
  go_enter Try.func74, Try.ntmps74
  go_wp2_with (at_make; refine wpList_make_new rfl _ _ 23 rfl 101 _ 2 _ Try.underlying23 info_pr rs.length rfl rfl (by omega) (by omega) ?_; intro wx hrow hbx hsx; rw [made_prs] at hrow)
  have hr0 : Row wx w.heap.size (prupTo rs 0) := by simpa [prupTo, prcells_nil] using hrow
  clear hrow
  go_loopw [4] (fun i wr => ∃ k : Nat, k ≤ rs.length ∧ i = .int .i64 k ∧ Row wr w.heap.size (prupTo rs k) ∧ Below w.heap.size w wr) (fun i _ => rs.length - (intOf i).toNat)
  case atStart => exact ⟨0, Nat.zero_le _, rfl, hr0, hbx⟩
  case round =>
    obtain ⟨k, hk, rfl, hrow, hbel⟩ := hrel
    by_cases hlt : k < rs.length
    · obtain ⟨b, o, s0, s1, rfl, hc0, hc1, HS⟩ := (h.below hbel).at hlt
      have HB := hid hbel
      have HR := hid hrow
      clear hrow hbel
      go_wp2_with (go_at_call 127; refine (to_pr s0 s1 _).mono ?_; rintro e w2 ⟨rfl, hb2⟩; have hr2 := HR.out.below hb2; have hl2 := prupTo_length rs k hk; obtain ⟨u0, hu0⟩ : ∃ u, w2.cell? ⟨w.heap.size, k * 2, none⟩ = some u := ⟨_, hr2.cell (k * 2) _ (List.getElem?_eq_getElem (by omega))⟩; obtain ⟨u1, hu1⟩ : ∃ u, w2.cell? ⟨w.heap.size, k * 2 + 1, none⟩ = some u := ⟨_, hr2.cell (k * 2 + 1) _ (List.getElem?_eq_getElem (by omega))⟩; have hf0 := hr2.froz (k * 2) (by omega); have hf1 := hr2.froz (k * 2 + 1) (by omega); have HR2 := hid hr2; have HL2 := hid hl2; clear hr2 hl2)
      have hrs := (HR2.out.set (k * 2) (by rw [HL2.out]; omega) (.string s0)).set (k * 2 + 1) (by rw [List.length_set, HL2.out]; omega) (.string s1)
      have hus : ((prupTo rs k).set (k * 2) (.string s0)).set (k * 2 + 1) (.string s1) = prupTo rs (k + 1) := by
        have e := HS.out
        rw [show s0 = (rs.getD k (ByteArray.empty, ByteArray.empty)).1 by rw [← e], show s1 = (rs.getD k (ByteArray.empty, ByteArray.empty)).2 by rw [← e]]
        exact prupTo_set rs k hlt
      rw [hus] at hrs
      go_roundw
      case rel => exact ⟨k + 1, by omega, by go_num, hrs, ((HB.out.trans (hb2.mono HB.out.size)).setCell (Nat.le_refl _) _).setCell (Nat.le_refl _) _⟩
      case measure => simp [intOf]; omega
    · go_wp2
      go_ret
      exact ⟨w.heap.size, rfl, Nat.le_refl _, by rw [← prupTo_all rs k (by omega)]; exact hrow, hbel⟩

end Go.Proofs.Ytnmaknnnmjfhkad
