import Derived.WalkKit
import Derived.WalkSpells
import Derived.WalkLawsBesides
import Derived.Outline
import Derived.BigQuiet
import Derived.Deep.QuietTactic
import Derived.Deep.RegionHeld3
import Derived.Test.YtnmaknnnmjfhkagGreatDoorProg
import Derived.Test.YtnmaknnnmjfhkagGreatDoorPrG43
import Derived.Deep.RegionLaw
import Derived.Test.YtnmaknnnmjfhkagGreatDoorPrG44
set_option maxHeartbeats 16000000
set_option maxRecDepth 8000
namespace Go.Proofs.YtnmaknnnmjfhkagGreatDoor
open Go.RowKit
set_option maxRecDepth 4000
set_option maxHeartbeats 16000000 in
theorem sz_strs (a : Option Addr) (ss : List ByteArray) (c : Nat) (left : Int) (w : World) (h : Strs w a ss) (h0 : 0 ≤ left) (h1 : left ≤ 1048576) (hl : ss.length ≤ maxLen) (hs : ∀ s ∈ ss, s.size ≤ maxLen) :
    Calls Tryz.prog 46 #[.slice a ss.length c, .int .i64 left] w fun e w' => e = .returned (.int .i64 (szL (ss.length :: ss.map ByteArray.size) left)) ∧ w' = w := by
  unfold maxLen at hl
  by_cases hn : left - (ss.length : Int) < 0
  · have HR := hid (szL_cons_lt (ss.map ByteArray.size) hn)
    go_enter Tryz.func46, Tryz.ntmps46
    go_wp2
    go_ret
    exact ⟨ret_int HR.out.symm, rfl⟩
  · have HR := hid (szL_cons_ge (ss.map ByteArray.size) hn)
    obtain ⟨R, HE⟩ : ∃ R, Hid (R = szL (ss.length :: ss.map ByteArray.size) left) := ⟨_, hid rfl⟩
    rw [← HE.out]
    go_enter Tryz.func46, Tryz.ntmps46
    go_wp2
    go_loop [1, 5] (fun x i => ∃ (k : Nat) (y : Int), k ≤ ss.length ∧ i = .int .i64 k ∧ x = .int .i64 y ∧ 0 ≤ y ∧ y ≤ 1048576 ∧ Hid (szL ((ss.map ByteArray.size).drop k) y = R)) (fun _ i => ss.length - (intOf i).toNat)
    case atStart => exact ⟨0, _, Nat.zero_le _, rfl, rfl, by omega, by omega, by show _ = _; rw [HE.out, HR.out, List.drop_zero]⟩
    case round =>
      obtain ⟨k, y, hk, rfl, rfl, hy0, hy1, HZ⟩ := hrel
      by_cases hlt : k < ss.length
      · obtain ⟨b, o, s, rfl, hc, HS⟩ := h.at hlt
        have hsz : s.size ≤ 9223372036854775807 := by
          have := hs s (by rw [HS.out]; simp [List.getD, hlt])
          unfold maxLen at this; exact this
        have HD := hid (drop_at (ss.map ByteArray.size) k 0 (by simpa using hlt))
        have HG : Hid ((ss.map ByteArray.size).getD k 0 = s.size) := by show _ = _; rw [HS.out]; simp [List.getD, hlt]
        by_cases hy : y - (s.size : Int) < 0
        · go_wp2
          go_ret
          refine ⟨ret_int ?_, rfl⟩
          rw [← HZ.out, HD.out, HG.out, szL_cons_lt _ hy]
        · go_wp2
          go_round
          case rel => exact ⟨k + 1, _, by omega, by go_num, rfl, by omega, by omega, by show _ = _; rw [← HZ.out, HD.out, HG.out, szL_cons_ge _ hy]⟩
          case measure => simp [intOf]; omega
      · go_wp2
        go_ret
        refine ⟨ret_int ?_, rfl⟩
        rw [← HZ.out, List.drop_of_length_le (by simp; omega)]
        rfl
set_option maxHeartbeats 16000000 in
theorem sz_wr (n : Int) (s : ByteArray) (y : Int) (w : World) (h0 : 0 ≤ y) (h1 : y ≤ 1048576) (hs : s.size ≤ 9223372036854775807) :
    Calls Tryz.prog 135 #[.agg #[.int .i64 n, .string s], .int .i64 y] w fun e w' => e = .returned (.int .i64 (if y - (s.size : Int) < 0 then -1 else y - (s.size : Int))) ∧ Below w.heap.size w w' := by
  by_cases hy : y - (s.size : Int) < 0
  · go_enter Tryz.func135, Tryz.ntmps135
    go_wp2
    go_ret
    exact ⟨rfl, (Below.refl _ _).alloc (Nat.le_refl _) _⟩
  · go_enter Tryz.func135, Tryz.ntmps135
    go_wp2
    go_ret
    exact ⟨rfl, (Below.refl _ _).alloc (Nat.le_refl _) _⟩
set_option maxHeartbeats 16000000 in
theorem sz_wrs (a : Option Addr) (ws : List (Int × ByteArray)) (c : Nat) (left : Int) (w : World) (h : Wrs w a ws) (h0 : 0 ≤ left) (h1 : left ≤ 1048576) (hl : ws.length ≤ maxLen) (hs : ∀ s ∈ ws, s.2.size ≤ maxLen) :
    Calls Tryz.prog 47 #[.slice a ws.length c, .int .i64 left] w fun e w' => e = .returned (.int .i64 (szL (ws.length :: ws.map fun x => x.2.size) left)) ∧ Below w.heap.size w w' := by
  unfold maxLen at hl
  by_cases hn : left - (ws.length : Int) < 0
  · have HR := hid (szL_cons_lt (ws.map fun x => x.2.size) hn)
    go_enter Tryz.func47, Tryz.ntmps47
    go_wp2
    go_ret
    exact ⟨ret_int HR.out.symm, Below.refl _ _⟩
  · have HR := hid (szL_cons_ge (ws.map fun x => x.2.size) hn)
    obtain ⟨R, HE⟩ : ∃ R, Hid (R = szL (ws.length :: ws.map fun x => x.2.size) left) := ⟨_, hid rfl⟩
    rw [← HE.out]
    go_enter Tryz.func47, Tryz.ntmps47
    go_wp2
    go_loopw [1, 5] (fun x i wr => ∃ (k : Nat) (y : Int), k ≤ ws.length ∧ i = .int .i64 k ∧ x = .int .i64 y ∧ 0 ≤ y ∧ y ≤ 1048576 ∧ Hid (szL ((ws.map fun x => x.2.size).drop k) y = R) ∧ Below w.heap.size w wr) (fun _ i _ => ws.length - (intOf i).toNat)
    case atStart => exact ⟨0, _, Nat.zero_le _, rfl, rfl, by omega, by omega, by show _ = _; rw [HE.out, HR.out, List.drop_zero], Below.refl _ _⟩
    case round =>
      obtain ⟨k, y, hk, rfl, rfl, hy0, hy1, HZ, hbel⟩ := hrel
      by_cases hlt : k < ws.length
      · obtain ⟨b, o, n, s, rfl, hc, hc2, HS⟩ := (h.below hbel).at hlt
        have hsz : s.size ≤ 9223372036854775807 := by
          have := hs (n, s) (by rw [HS.out]; simp [List.getD, hlt])
          unfold maxLen at this; exact this
        have HD := hid (drop_at (ws.map fun x => x.2.size) k 0 (by simpa using hlt))
        have HG : Hid ((ws.map fun x => x.2.size).getD k 0 = s.size) := by
          show _ = _
          have e := HS.out
          simp only [List.getD, List.getElem?_map]
          simp only [List.getD] at e
          rw [List.getElem?_eq_getElem hlt] at e ⊢
          simp only [Option.getD_some] at e
          simp [← e]
        by_cases hy : y - (s.size : Int) < 0
        · have hneg : (-1 : Int) < 0 := by omega
          go_wp2_with (go_at_call 135; refine (sz_wr n s y _ hy0 hy1 hsz).mono ?_; rw [if_pos hy]; rintro e w2 ⟨rfl, hb2⟩)
          go_ret
          refine ⟨ret_int ?_, hbel.trans (hb2.mono hbel.size)⟩
          rw [← HZ.out, HD.out, HG.out, szL_cons_lt _ hy]
        · have hy2 : 0 ≤ y - (s.size : Int) := by omega
          go_wp2_with (go_at_call 135; refine (sz_wr n s y _ hy0 hy1 hsz).mono ?_; rw [if_neg hy]; rintro e w2 ⟨rfl, hb2⟩)
          go_roundw
          case rel => exact ⟨k + 1, _, by omega, by go_num, rfl, by omega, by omega, by show _ = _; rw [← HZ.out, HD.out, HG.out, szL_cons_ge _ (by omega)], hbel.trans (hb2.mono hbel.size)⟩
          case measure => simp [intOf]; omega
      · go_wp2
        go_ret
        refine ⟨ret_int ?_, hbel⟩
        rw [← HZ.out, List.drop_of_length_le (by simp; omega)]
        rfl
@[reducible] def diskV (a : Option Addr) (n c : Nat) (a' : Option Addr) (n' c' : Nat) : Value := .agg #[.slice a n c, .slice a' n' c']
def szs (ss : List ByteArray) (ws : List (Int × ByteArray)) : List Nat := (ss.length :: ss.map ByteArray.size) ++ (ws.length :: ws.map fun x => x.2.size)
set_option maxHeartbeats 16000000 in
theorem sz_disk (a : Option Addr) (ss : List ByteArray) (c : Nat) (a' : Option Addr) (ws : List (Int × ByteArray)) (c' : Nat) (w : World) (h : Strs w a ss) (h' : Wrs w a' ws)
    (hl : ss.length ≤ maxLen) (hs : ∀ s ∈ ss, s.size ≤ maxLen) (hl' : ws.length ≤ maxLen) (hs' : ∀ s ∈ ws, s.2.size ≤ maxLen) :
    Calls Tryz.prog 9 #[diskV a ss.length c a' ws.length c', .int .i64 1048576] w fun e w' => e = .returned (.int .i64 (szL (szs ss ws) 1048576)) ∧ Below w.heap.size w w' := by
  have hb0 : ∀ o, Below w.heap.size w (w.alloc o) := fun o => (Below.refl _ _).alloc (Nat.le_refl _) _
  have hbd := szL_bd (ss.length :: ss.map ByteArray.size) 1048576 (by omega)
  have hno := szL_append_no (ss.length :: ss.map ByteArray.size) (ws.length :: ws.map fun x => x.2.size) 1048576 (by omega)
  have hyes := szL_append_yes (ss.length :: ss.map ByteArray.size) (ws.length :: ws.map fun x => x.2.size) 1048576 (by omega)
  obtain ⟨x, HX⟩ : ∃ x, Hid (x = szL (ss.length :: ss.map ByteArray.size) 1048576) := ⟨_, hid rfl⟩
  obtain ⟨R, HR⟩ : ∃ R, Hid (R = szL (szs ss ws) 1048576) := ⟨_, hid rfl⟩
  rw [← HR.out]
  unfold szs at HR
  rw [← HX.out] at hbd hno hyes
  by_cases hx : x < 0
  · have hRm : R = -1 := by rw [HR.out, hno hx]
    have hx1 : x = -1 := by omega
    clear hno hyes hbd
    have HRm := hid hRm
    have HX1 := hid hx1
    clear hRm hx1
    go_enter Tryz.func9, Tryz.ntmps9
    go_wp2_with fail
    refine (sz_strs a ss c 1048576 _ (h.below (hb0 _)) (by omega) (by omega) hl hs).mono ?_
    rw [← HX.out]
    rintro e w1 ⟨rfl, rfl⟩
    go_wp2
    go_ret
    exact ⟨ret_int HRm.out.symm, hb0 _⟩
  · have HRm := hid (HR.out.trans (hyes (by omega)))
    have hx0 : 0 ≤ x := by omega
    have hx1 : x ≤ 1048576 := by omega
    clear hno hyes hbd hx
    have hbd2 := szL_bd (ws.length :: ws.map fun x => x.2.size) x hx0
    rw [← HRm.out] at hbd2
    go_enter Tryz.func9, Tryz.ntmps9
    go_wp2_with fail
    refine (sz_strs a ss c 1048576 _ (h.below (hb0 _)) (by omega) (by omega) hl hs).mono ?_
    rw [← HX.out]
    rintro e w1 ⟨rfl, rfl⟩
    go_wp2_with fail
    refine (sz_wrs a' ws c' x _ (h'.below (hb0 _)) hx0 hx1 hl' hs').mono ?_
    rw [← HRm.out]
    rintro e w1 ⟨rfl, hb1⟩
    have hb2 := (hb0 _).trans (hb1.mono (by simp))
    clear hb1
    by_cases hR : R < 0
    · have hR1 : Hid (R = -1) := by show R = -1; omega
      clear hbd2
      go_wp2
      go_ret
      exact ⟨ret_int hR1.out.symm, hb2⟩
    · clear hbd2
      go_wp2
      go_ret
      exact ⟨rfl, hb2⟩
end Go.Proofs.YtnmaknnnmjfhkagGreatDoor

namespace Go.Proofs.YtnmaknnnmjfhkagGreatDoor
open Go.RowKit
set_option maxRecDepth 4000
theorem infoStr : (Tryz.prog.info? 9).map (fun i => (i.zero, i.size, i.bytes)) = some (some (.string ByteArray.empty), 1, 16) := by kernel_rfl
theorem infoWr : (Tryz.prog.info? 183).map (fun i => (i.zero, i.size, i.bytes)) = some (some (.agg #[.int .i64 0, .string ByteArray.empty]), 2, 24) := by kernel_rfl
set_option maxHeartbeats 16000000 in
theorem to_strs (a : Option Addr) (ss : List ByteArray) (c : Nat) (w : World) (h : Strs w a ss) (hl : ss.length ≤ 1048576) :
    Calls Tryz.prog 57 #[.slice a ss.length c] w fun e w' => ∃ g, e = .returned (.slice (some ⟨g, 0, none⟩) ss.length ss.length) ∧ w.heap.size ≤ g ∧ Row w' g (ss.map Value.string) ∧ Below w.heap.size w w' := by
  go_enter Tryz.func57, Tryz.ntmps57
  go_wp2_with (at_make; refine wpList_make_new rfl _ _ 22 rfl 9 _ 1 16 Tryz.underlying22 infoStr ss.length rfl rfl (by omega) (by omega) ?_; intro wx hrow hbx hsx; rw [made_strs] at hrow)
  have hr0 : Row wx w.heap.size (upTo ss 0) := by simpa [upTo] using hrow
  clear hrow
  go_loopw [4] (fun i wr => ∃ k : Nat, k ≤ ss.length ∧ i = .int .i64 k ∧ Row wr w.heap.size (upTo ss k) ∧ Below w.heap.size w wr) (fun i _ => ss.length - (intOf i).toNat)
  case atStart => exact ⟨0, Nat.zero_le _, rfl, hr0, hbx⟩
  case round =>
    obtain ⟨k, hk, rfl, hrow, hbel⟩ := hrel
    by_cases hlt : k < ss.length
    · obtain ⟨b, o, s, rfl, hc, HS⟩ := (h.below hbel).at hlt
      have hlu := upTo_length ss k hk
      obtain ⟨u, hu⟩ : ∃ u, wr.cell? ⟨w.heap.size, k, none⟩ = some u := ⟨_, hrow.cell k _ (List.getElem?_eq_getElem (by omega))⟩
      have hf := hrow.froz k (by omega)
      have HR := hid (hrow.set k (by omega) (.string s))
      have HU : Hid ((upTo ss k).set k (.string s) = upTo ss (k + 1)) := by show _ = _; rw [HS.out]; exact upTo_set ss k hlt
      clear hrow hlu
      go_wp2
      go_roundw
      case rel => exact ⟨k + 1, by omega, by go_num, by rw [← HU.out]; exact HR.out, hbel.setCell (Nat.le_refl _) _⟩
      case measure => simp [intOf]; omega
    · go_wp2
      go_ret
      exact ⟨w.heap.size, rfl, Nat.le_refl _, by rw [← upTo_all ss k (by omega)]; exact hrow, hbel⟩
theorem bcell {W w1 : World} (hb : Below W.heap.size W w1) : (∀ b o, b < W.heap.size → w1.cell? ⟨b, o, none⟩ = W.cell? ⟨b, o, none⟩) ∧ (∀ b o, b < W.heap.size → w1.frozen? ⟨b, o, none⟩ = W.frozen? ⟨b, o, none⟩) :=
  ⟨fun b o h => hb.cell (p := ⟨b, o, none⟩) h, fun b o h => hb.frozen (p := ⟨b, o, none⟩) h⟩
set_option maxHeartbeats 16000000 in
theorem to_wr (n : Int) (s : ByteArray) (w : World) :
    Calls Tryz.prog 146 #[.agg #[.int .i64 n, .string s]] w fun e w' => e = .returned (.agg #[.int .i64 n, .string s]) ∧ Below w.heap.size w w' := by
  go_enter Tryz.func146, Tryz.ntmps146
  go_wp2
  exact bodyPost_ret (v := .agg #[.int .i64 n, .string s]) (by simp [results, Tryz.results146, go_sem]) rfl ⟨rfl, (((Below.refl _ _).alloc (Nat.le_refl _) _).alloc (by simp) _).alloc (by simp; omega) _⟩
set_option maxHeartbeats 16000000 in
theorem to_wrs (a : Option Addr) (ws : List (Int × ByteArray)) (c : Nat) (w : World) (h : Wrs w a ws) (hl : ws.length ≤ 1048576) :
    Calls Tryz.prog 58 #[.slice a ws.length c] w fun e w' => ∃ g, e = .returned (.slice (some ⟨g, 0, none⟩) ws.length ws.length) ∧ w.heap.size ≤ g ∧ Row w' g (wcells ws) ∧ Below w.heap.size w w' := by
  go_enter Tryz.func58, Tryz.ntmps58
  go_wp2_with (at_make; refine wpList_make_new rfl _ _ 38 rfl 183 _ 2 24 Tryz.underlying38 infoWr ws.length rfl rfl (by omega) (by omega) ?_; intro wx hrow hbx hsx; rw [made_wrs] at hrow)
  have hr0 : Row wx w.heap.size (wupTo ws 0) := by simpa [wupTo, wcells_nil] using hrow
  clear hrow
  go_loopw [4] (fun i wr => ∃ k : Nat, k ≤ ws.length ∧ i = .int .i64 k ∧ Row wr w.heap.size (wupTo ws k) ∧ Below w.heap.size w wr) (fun i _ => ws.length - (intOf i).toNat)
  case atStart => exact ⟨0, Nat.zero_le _, rfl, hr0, hbx⟩
  case round =>
    obtain ⟨k, hk, rfl, hrow, hbel⟩ := hrel
    by_cases hlt : k < ws.length
    · obtain ⟨b, o, n, s, rfl, hc, hc2, HS⟩ := (h.below hbel).at hlt
      have HB := hid hbel
      have HR := hid hrow
      clear hrow hbel
      go_wp2_with (go_at_call 146; refine (to_wr n s _).mono ?_; rintro e w2 ⟨rfl, hb2⟩; have hr2 := HR.out.below hb2; have hl2 := wupTo_length ws k hk; obtain ⟨u, hu⟩ : ∃ u, w2.cell? ⟨w.heap.size, k * 2, none⟩ = some u := ⟨_, hr2.cell (k * 2) _ (List.getElem?_eq_getElem (by omega))⟩; obtain ⟨u', hu'⟩ : ∃ u', w2.cell? ⟨w.heap.size, k * 2 + 1, none⟩ = some u' := ⟨_, hr2.cell (k * 2 + 1) _ (List.getElem?_eq_getElem (by omega))⟩; have hf := hr2.froz (k * 2) (by omega); have hf' := hr2.froz (k * 2 + 1) (by omega); have HR2 := hid hr2; have HL2 := hid hl2; clear hr2 hl2)
      have hrs := (HR2.out.set (k * 2) (by rw [HL2.out]; omega) (.int .i64 n)).set (k * 2 + 1) (by rw [List.length_set, HL2.out]; omega) (.string s)
      have hus : ((wupTo ws k).set (k * 2) (.int .i64 n)).set (k * 2 + 1) (.string s) = wupTo ws (k + 1) := by
        have e := HS.out
        rw [show n = (ws.getD k (0, ByteArray.empty)).1 by rw [← e], show s = (ws.getD k (0, ByteArray.empty)).2 by rw [← e]]
        exact wupTo_set ws k hlt
      rw [hus] at hrs
      go_roundw
      case rel => exact ⟨k + 1, by omega, by go_num, hrs, ((HB.out.trans (hb2.mono HB.out.size)).setCell (Nat.le_refl _) _).setCell (Nat.le_refl _) _⟩
      case measure => simp [intOf]; omega
    · go_wp2
      go_ret
      exact ⟨w.heap.size, rfl, Nat.le_refl _, by rw [← wupTo_all ws k (by omega)]; exact hrow, hbel⟩
set_option maxHeartbeats 16000000 in
theorem to_disk (a : Option Addr) (ss : List ByteArray) (c : Nat) (a' : Option Addr) (ws : List (Int × ByteArray)) (c' : Nat) (w : World) (h : Strs w a ss) (h' : Wrs w a' ws) (hl : ss.length ≤ 1048576) (hl' : ws.length ≤ 1048576) :
    Calls Tryz.prog 11 #[diskV a ss.length c a' ws.length c'] w fun e w' => ∃ g g', e = .returned (diskV (some ⟨g, 0, none⟩) ss.length ss.length (some ⟨g', 0, none⟩) ws.length ws.length) ∧ w.heap.size ≤ g ∧ w.heap.size ≤ g' ∧ g ≠ g' ∧ Row w' g (ss.map Value.string) ∧ Row w' g' (wcells ws) ∧ Below w.heap.size w w' := by
  have hb0 : ∀ o1 o2 o3, Below w.heap.size w (((w.alloc o1).alloc o2).alloc o3) := fun o1 o2 o3 => (((Below.refl _ _).alloc (Nat.le_refl _) _).alloc (by simp) _).alloc (by simp; omega) _
  go_enter Tryz.func11, Tryz.ntmps11
  go_wp2_with fail
  refine (to_strs a ss c _ (h.below (hb0 _ _ _)) hl).mono ?_
  rintro e w1 ⟨g, rfl, hg, hr1, hb1⟩
  have hB1 := (hb0 _ _ _).trans (hb1.mono (by simp; omega))
  have hs1 := hb1.size
  obtain ⟨q1, q2⟩ := bcell hb1
  simp only [World.size_alloc] at hg hs1
  have HB1 := hid hb1
  have HR1 := hid hr1
  have HBB := hid hB1
  clear hb1 hr1 hB1
  go_wp2_with fail
  have hBW := HBB.out.setCell (p := ⟨w.heap.size + 1 + 1, 0, none⟩) (by show w.heap.size ≤ w.heap.size + 1 + 1; omega) (Value.slice (some ⟨g, 0, none⟩) ss.length ss.length)
  have HRW := hid (HR1.out.other ⟨w.heap.size + 1 + 1, 0, none⟩ (by show w.heap.size + 1 + 1 ≠ g; omega) (Value.slice (some ⟨g, 0, none⟩) ss.length ss.length))
  refine (to_wrs a' ws c' _ (h'.below hBW) hl').mono ?_
  rintro e w2 ⟨g', rfl, hg', hr2, hb2⟩
  have HBW := hid (hBW.trans (hb2.mono hBW.size))
  have HRX := hid (HRW.out.below hb2)
  have HR2 := hid hr2
  simp only [World.size_setCell] at hg'
  have hgl : g < w1.heap.size := HR1.out.lt
  have hlt1 : w.heap.size + 1 + 1 < (w1.setCell ⟨w.heap.size + 1 + 1, 0, none⟩ (Value.slice (some ⟨g, 0, none⟩) ss.length ss.length)).heap.size := by simp only [World.size_setCell]; omega
  have c20 : w2.cell? ⟨w.heap.size + 1 + 1, 0, none⟩ = some (.slice (some ⟨g, 0, none⟩) ss.length ss.length) := (hb2.cell (p := ⟨w.heap.size + 1 + 1, 0, none⟩) hlt1).trans (by go_simp)
  have c21 : w2.cell? ⟨w.heap.size + 1 + 1, 1, none⟩ = some (.slice none 0 0) := (hb2.cell (p := ⟨w.heap.size + 1 + 1, 1, none⟩) hlt1).trans (by go_simp)
  have f21 : w2.frozen? ⟨w.heap.size + 1 + 1, 1, none⟩ = false := (hb2.frozen (p := ⟨w.heap.size + 1 + 1, 1, none⟩) hlt1).trans (by go_simp)
  have c10 : w2.cell? ⟨w.heap.size + 1, 0, none⟩ = some (.slice none 0 0) := (hb2.cell (p := ⟨w.heap.size + 1, 0, none⟩) (by show w.heap.size + 1 < _; omega)).trans (by go_simp)
  have c11 : w2.cell? ⟨w.heap.size + 1, 1, none⟩ = some (.slice none 0 0) := (hb2.cell (p := ⟨w.heap.size + 1, 1, none⟩) (by show w.heap.size + 1 < _; omega)).trans (by go_simp)
  have f10 : w2.frozen? ⟨w.heap.size + 1, 0, none⟩ = false := (hb2.frozen (p := ⟨w.heap.size + 1, 0, none⟩) (by show w.heap.size + 1 < _; omega)).trans (by go_simp)
  have f11 : w2.frozen? ⟨w.heap.size + 1, 1, none⟩ = false := (hb2.frozen (p := ⟨w.heap.size + 1, 1, none⟩) (by show w.heap.size + 1 < _; omega)).trans (by go_simp)
  clear hb2 hr2 HB1 HR1 HBB HRW hBW q1 q2 hlt1
  go_wp2
  have hgs : w.heap.size + 1 + 1 < g := by omega
  have hgs' : w.heap.size + 1 + 1 < g' := by omega
  refine bodyPost_ret (v := diskV (some ⟨g, 0, none⟩) ss.length ss.length (some ⟨g', 0, none⟩) ws.length ws.length) (by simp [results, Tryz.results11, go_sem, c10, c11]) rfl ⟨g, g', rfl, by omega, by omega, by omega, ?_, ?_, ?_⟩
  · exact ((HRX.out.other _ (by show w.heap.size + 1 + 1 ≠ g; omega) _).other _ (by show w.heap.size + 1 ≠ g; omega) _).other _ (by show w.heap.size + 1 ≠ g; omega) _
  · exact ((HR2.out.other _ (by show w.heap.size + 1 + 1 ≠ g'; omega) _).other _ (by show w.heap.size + 1 ≠ g'; omega) _).other _ (by show w.heap.size + 1 ≠ g'; omega) _
  · exact ((HBW.out.setCell (by show w.heap.size ≤ w.heap.size + 1 + 1; omega) _).setCell (by show w.heap.size ≤ w.heap.size + 1; omega) _).setCell (by show w.heap.size ≤ w.heap.size + 1; omega) _
end Go.Proofs.YtnmaknnnmjfhkagGreatDoor

namespace Go.Proofs.YtnmaknnnmjfhkagGreatDoor
open Go.RowKit
set_option linter.unusedVariables false
theorem Dsk.start (w : World) (t1 t2 e e' : TypeId) : Dsk w ((w.alloc (.cells #[.slice none 0 0, .slice none 0 0] t1)).alloc (.cells #[.slice none 0 0, .slice none 0 0] t2)) w.heap.size (w.heap.size + 1) (w.heap.size + 1 + 1) e e' (.slice none 0 0) (.slice none 0 0) [] [] := by
  have hb : Below w.heap.size w ((w.alloc (.cells #[.slice none 0 0, .slice none 0 0] t1)).alloc (.cells #[.slice none 0 0, .slice none 0 0] t2)) := ((Below.refl _ _).alloc (Nat.le_refl _) _).alloc (by simp) _
  have r1 := (row_new w #[.slice none 0 0, .slice none 0 0] t1).alloc (.cells #[.slice none 0 0, .slice none 0 0] t2)
  have r2 := row_new (w.alloc (.cells #[.slice none 0 0, .slice none 0 0] t1)) #[.slice none 0 0, .slice none 0 0] t2
  simp only [World.size_alloc] at r2
  exact ⟨Nat.le_refl _, by omega, by omega, by omega, by omega, by simp, hb, r1.cell 0 _ rfl, r1.cell 1 _ rfl, r1.froz 0 (by simp), r1.froz 1 (by simp), r2.cell 0 _ rfl, r2.cell 1 _ rfl, r2.froz 0 (by simp), r2.froz 1 (by simp), World.ownsRow_nil _ _ _ _, World.ownsRow_nil _ _ _ _, .inl rfl⟩
theorem info_parts' {P : Program} {e : TypeId} {z : Value} {size bytes : Nat} (h : (P.info? e).map (fun i => (i.zero, i.size, i.bytes)) = some (some z, size, bytes)) : ∃ i, P.info? e = some i ∧ i.zero = some z ∧ i.size = size ∧ i.bytes = bytes := by
  obtain ⟨i, hi, hh⟩ := Option.map_eq_some_iff.1 h
  simp only [Prod.mk.injEq] at hh
  exact ⟨i, hi, hh⟩
end Go.Proofs.YtnmaknnnmjfhkagGreatDoor

namespace Go.Proofs.YtnmaknnnmjfhkagGreatDoor
open Go.RowKit
set_option maxRecDepth 4000
set_option maxHeartbeats 16000000 in
theorem eq_strs (a b : Option Addr) (ss : List ByteArray) (c c' : Nat) (w : World) (h : Strs w a ss) (h' : Strs w b ss) (hl : ss.length ≤ 1048576) :
    Calls Tryz.prog 72 #[.slice a ss.length c, .slice b ss.length c'] w fun e w' => e = .returned (.bool true) ∧ Below w.heap.size w w' := by
  go_enter Tryz.func72, Tryz.ntmps72
  go_wp2
  go_loopw [5] (fun i wr => ∃ k : Nat, k ≤ ss.length ∧ i = .int .i64 k ∧ Below w.heap.size w wr) (fun i _ => ss.length - (intOf i).toNat)
  case atStart => exact ⟨0, Nat.zero_le _, rfl, Below.refl _ _⟩
  case round =>
    obtain ⟨k, hk, rfl, hbel⟩ := hrel
    by_cases hlt : k < ss.length
    · obtain ⟨b1, o1, s, rfl, hc, HS⟩ := (h.below hbel).at hlt
      obtain ⟨b2, o2, s', rfl, hc', HS'⟩ := (h'.below hbel).at hlt
      obtain rfl : s = s' := HS.out.trans HS'.out.symm
      have hk1 : (k : Int) < (ss.length : Int) := by omega
      have hk0 : (0 : Int) ≤ (k : Int) := by omega
      clear HS HS'
      go_wp2_with fail
      go_quiet (fail)
      go_wp2
      go_roundw
      case rel => exact ⟨k + 1, by omega, by go_num, below_drewN hbel _⟩
      case measure => simp [intOf]; omega
    · go_wp2
      go_ret
      exact ⟨rfl, hbel⟩
set_option maxHeartbeats 16000000 in
theorem eq_wr (n : Int) (s : ByteArray) (w : World) :
    Calls Tryz.prog 169 #[.agg #[.int .i64 n, .string s], .agg #[.int .i64 n, .string s]] w fun e w' => e = .returned (.bool true) ∧ Below w.heap.size w w' := by
  go_enter Tryz.func169, Tryz.ntmps169
  go_wp2
  go_ret
  exact ⟨rfl, ((Below.refl _ _).alloc (Nat.le_refl _) _).alloc (by simp) _⟩
set_option maxHeartbeats 16000000 in
theorem eq_wrs (a b : Option Addr) (ws : List (Int × ByteArray)) (c c' : Nat) (w : World) (h : Wrs w a ws) (h' : Wrs w b ws) (hl : ws.length ≤ 1048576) :
    Calls Tryz.prog 73 #[.slice a ws.length c, .slice b ws.length c'] w fun e w' => e = .returned (.bool true) ∧ Below w.heap.size w w' := by
  go_enter Tryz.func73, Tryz.ntmps73
  go_wp2
  go_loopw [5] (fun i wr => ∃ k : Nat, k ≤ ws.length ∧ i = .int .i64 k ∧ Below w.heap.size w wr) (fun i _ => ws.length - (intOf i).toNat)
  case atStart => exact ⟨0, Nat.zero_le _, rfl, Below.refl _ _⟩
  case round =>
    obtain ⟨k, hk, rfl, hbel⟩ := hrel
    by_cases hlt : k < ws.length
    · obtain ⟨b1, o1, n, s, rfl, hc, hd, HS⟩ := (h.below hbel).at hlt
      obtain ⟨b2, o2, n', s', rfl, hc', hd', HS'⟩ := (h'.below hbel).at hlt
      obtain ⟨rfl, rfl⟩ : n = n' ∧ s = s' := by have := HS.out.trans HS'.out.symm; simpa using this
      have hk1 : (k : Int) < (ws.length : Int) := by omega
      have hk0 : (0 : Int) ≤ (k : Int) := by omega
      have lt1 : b1 < wr.heap.size := by have := World.block_lt_of_cell? wr _ hc; simpa using this
      have lt2 : b2 < wr.heap.size := by have := World.block_lt_of_cell? wr _ hc'; simpa using this
      have HQ := hid (And.intro hc (And.intro hd (And.intro hc' hd')))
      clear HS HS' hc hd hc' hd'
      go_wp2_with fail
      go_region_held3 (fun w' => w'.cell? ⟨b1, o1 + k * 2, none⟩ = some (.int .i64 n) ∧ w'.cell? ⟨b1, o1 + k * 2 + 1, none⟩ = some (.string s) ∧ w'.cell? ⟨b2, o2 + k * 2, none⟩ = some (.int .i64 n) ∧ w'.cell? ⟨b2, o2 + k * 2 + 1, none⟩ = some (.string s))
        (first | assumption | exact HQ.out | exact ⟨(hb2.cell (p := ⟨b1, _, none⟩) lt1).trans HQ.out.1, (hb2.cell (p := ⟨b1, _, none⟩) lt1).trans HQ.out.2.1, (hb2.cell (p := ⟨b2, _, none⟩) lt2).trans HQ.out.2.2.1, (hb2.cell (p := ⟨b2, _, none⟩) lt2).trans HQ.out.2.2.2⟩)
        (first | (go_at_call 169; refine (eq_wr n s _).mono ?_; rintro e w2 ⟨rfl, hb2⟩))
      go_wp2
      go_roundw
      case rel => exact ⟨k + 1, by omega, by go_num, hbel.drew.trans (hb2.mono hbel.size)⟩
      case measure => simp [intOf]; omega
    · go_wp2
      go_ret
      exact ⟨rfl, hbel⟩
set_option maxHeartbeats 16000000 in
theorem eq_disk (a b : Option Addr) (ss : List ByteArray) (c d : Nat) (a' b' : Option Addr) (ws : List (Int × ByteArray)) (c' d' : Nat) (w : World) (h1 : Strs w a ss) (h2 : Strs w b ss) (h3 : Wrs w a' ws) (h4 : Wrs w b' ws) (hl : ss.length ≤ 1048576) (hl' : ws.length ≤ 1048576) :
    Calls Tryz.prog 14 #[diskV a ss.length c a' ws.length c', diskV b ss.length d b' ws.length d'] w fun e w' => e = .returned (.bool true) ∧ Below w.heap.size w w' := by
  have hb0 : ∀ o1 o2, Below w.heap.size w ((w.alloc o1).alloc o2) := fun o1 o2 => ((Below.refl _ _).alloc (Nat.le_refl _) _).alloc (by simp) _
  go_enter Tryz.func14, Tryz.ntmps14
  go_wp2_with fail
  refine (eq_strs a b ss c d _ (h1.below (hb0 _ _)) (h2.below (hb0 _ _)) hl).mono ?_
  rintro e w1 ⟨rfl, hb1⟩
  have hB1 := (hb0 _ _).trans (hb1.mono (by simp; omega))
  obtain ⟨q1, q2⟩ := bcell hb1
  clear hb1
  go_wp2_with fail
  refine (eq_wrs a' b' ws c' d' _ (h3.below hB1) (h4.below hB1) hl').mono ?_
  rintro e w2 ⟨rfl, hb2⟩
  clear q1 q2
  go_wp2
  go_ret
  exact ⟨rfl, hB1.trans (hb2.mono hB1.size)⟩
end Go.Proofs.YtnmaknnnmjfhkagGreatDoor

namespace Go.Proofs.YtnmaknnnmjfhkagGreatDoor
open Go.RowKit
set_option maxRecDepth 4000
set_option linter.unusedVariables false
def marks (k n : Nat) : List ByteArray := (List.range n).map fun i => mtext (k + i)
theorem marks_length (k n : Nat) : (marks k n).length = n := by simp [marks]
theorem marks_succ (k n : Nat) : marks k (n + 1) = marks k n ++ [mtext (k + n)] := by simp [marks, List.range_succ]
def mixed (k i : Nat) (ss : List ByteArray) : List Value := (marks k i ++ ss.drop i).map Value.string
theorem mixed_length (k i : Nat) (ss : List ByteArray) (h : i ≤ ss.length) : (mixed k i ss).length = ss.length := by simp [mixed, marks_length]; omega
theorem mixed_set (k i : Nat) (ss : List ByteArray) (h : i < ss.length) : (mixed k i ss).set i (.string (mtext (k + i))) = mixed k (i + 1) ss := by
  unfold mixed
  rw [marks_succ, drop_at ss i ByteArray.empty h, List.map_append, List.map_append, List.map_append, List.map_cons, List.set_append_right _ _ (by simp [marks_length])]
  simp [marks_length]
set_option maxHeartbeats 16000000 in
theorem mark_strs (a : Option Addr) (ss : List ByteArray) (c k : Nat) (w : World) (h : OwnS w a (ss.map Value.string)) (hk : 0 < k) (hl : k + ss.length ≤ 100000000) :
    Calls Tryz.prog 74 #[.slice a ss.length c, .int .i64 (k : Int)] w fun e w' => e = .returned (.int .i64 ((k + ss.length : Nat) : Int)) ∧ w.grownBy w' (blk a ss.length) ∧ OwnS w' a ((marks k ss.length).map Value.string) := by
  by_cases hss : ss = []
  · subst hss
    go_enter Tryz.func74, Tryz.ntmps74
    go_wp2
    refine wp_loop_rounds 1 ?_
    rw [rounds_succ]
    go_wp2
    go_ret
    exact ⟨rfl, grown_refl _ _, .inl rfl⟩
  · obtain ⟨g, rfl, hrow⟩ := h.resolve_left (by simpa using hss)
    rw [blk_pos g 0 ss.length (fun e => hss (List.eq_nil_of_length_eq_zero e))]
    have hr0 : Row w g (mixed k 0 ss) := by simpa [mixed, marks] using hrow
    clear hrow hss
    go_enter Tryz.func74, Tryz.ntmps74
    go_wp2
    go_loopw [1, 5] (fun x i wr => ∃ j : Nat, j ≤ ss.length ∧ i = .int .i64 (j : Int) ∧ x = .int .i64 ((k + j : Nat) : Int) ∧ Row wr g (mixed k j ss) ∧ w.grownBy wr (some g)) (fun _ i _ => ss.length - (intOf i).toNat)
    case atStart => exact ⟨0, Nat.zero_le _, rfl, rfl, hr0, grown_refl _ _⟩
    case round =>
      clear hr0
      obtain ⟨j, hj, rfl, rfl, hrow, hgr⟩ := hrel
      have HR := hid hrow
      have HG := hid hgr
      clear hrow hgr
      by_cases hlt : j < ss.length
      · have HL := hid (mixed_length k j ss hj)
        have hkj : ((k + j : Nat) : Int) ≤ 100000000 := by omega
        have hkj0 : (0 : Int) < ((k + j : Nat) : Int) := by omega
        go_wp2_with (go_at_call 170; refine (mark_text (k + j) _ (by omega) (by omega)).mono ?_; rintro e w2 ⟨rfl, hb2⟩; have hr2 := HR.out.below hb2; obtain ⟨u, hu⟩ : ∃ u, w2.cell? ⟨g, j, none⟩ = some u := ⟨_, hr2.cell j _ (List.getElem?_eq_getElem (by rw [HL.out]; omega))⟩; have hf := hr2.froz j (by rw [HL.out]; omega); have HR2 := hid hr2; have HB2 := hid hb2; clear hr2 hb2)
        go_roundw
        case rel => exact ⟨j + 1, by omega, by go_num, by go_num, by rw [← mixed_set k j ss hlt]; exact HR2.out.set j (by rw [HL.out]; omega) _, grown_set (grown_trans HG.out (grown_of_below _ HB2.out)) _ _⟩
        case measure => simp [intOf]; omega
      · have hjl : Hid (j = ss.length) := by show _ = _; omega
        go_wp2
        go_ret
        refine ⟨ret_int (by rw [hjl.out]), HG.out, .inr ⟨g, rfl, ?_⟩⟩
        have := HR.out
        rw [hjl.out] at this
        simpa [mixed] using this
end Go.Proofs.YtnmaknnnmjfhkagGreatDoor

namespace Go.Proofs.YtnmaknnnmjfhkagGreatDoor
open Go.RowKit
set_option maxRecDepth 4000
set_option linter.unusedVariables false
def wmarks (k n : Nat) : List (Int × ByteArray) := (List.range n).map fun i => (((k + 2 * i : Nat) : Int), mtext (k + 2 * i + 1))
theorem wmarks_length (k n : Nat) : (wmarks k n).length = n := by simp [wmarks]
theorem wmarks_succ (k n : Nat) : wmarks k (n + 1) = wmarks k n ++ [(((k + 2 * n : Nat) : Int), mtext (k + 2 * n + 1))] := by simp [wmarks, List.range_succ]
def wmixed (k i : Nat) (ws : List (Int × ByteArray)) : List Value := wcells (wmarks k i ++ ws.drop i)
theorem wmixed_length (k i : Nat) (ws : List (Int × ByteArray)) (h : i ≤ ws.length) : (wmixed k i ws).length = ws.length * 2 := by simp [wmixed, wcells_length, wmarks_length]; omega
theorem wmixed_set (k i : Nat) (ws : List (Int × ByteArray)) (h : i < ws.length) : ((wmixed k i ws).set (i * 2) (.int .i64 ((k + 2 * i : Nat) : Int))).set (i * 2 + 1) (.string (mtext (k + 2 * i + 1))) = wmixed k (i + 1) ws := by
  have el : (wcells (wmarks k i)).length = i * 2 := by rw [wcells_length, wmarks_length]
  unfold wmixed
  rw [wmarks_succ, drop_at ws i (0, ByteArray.empty) h, wcells_append, wcells_append, wcells_append, List.set_append_right _ _ (by omega), List.set_append_right _ _ (by omega), el]
  simp [wcells]
set_option maxHeartbeats 16000000 in
theorem mark_wrs (a : Option Addr) (ws : List (Int × ByteArray)) (c k : Nat) (w : World) (h : OwnS w a (wcells ws)) (hk : 0 < k) (hl : k + 2 * ws.length ≤ 100000000) :
    Calls Tryz.prog 75 #[.slice a ws.length c, .int .i64 (k : Int)] w fun e w' => e = .returned (.int .i64 ((k + 2 * ws.length : Nat) : Int)) ∧ w.grownBy w' (blk a ws.length) ∧ OwnS w' a (wcells (wmarks k ws.length)) := by
  by_cases hss : ws = []
  · skip
    subst hss
    go_enter Tryz.func75, Tryz.ntmps75
    go_wp2
    refine wp_loop_rounds 1 ?_
    rw [rounds_succ]
    go_wp2
    go_ret
    exact ⟨rfl, grown_refl _ _, .inl rfl⟩
  · obtain ⟨g, rfl, hrow⟩ := h.resolve_left (fun e => hss (by have := congrArg List.length e; rw [wcells_length, List.length_nil] at this; exact List.eq_nil_of_length_eq_zero (by omega)))
    rw [blk_pos g 0 ws.length (fun e => hss (List.eq_nil_of_length_eq_zero e))]
    have hr0 : Row w g (wmixed k 0 ws) := by simpa [wmixed, wmarks] using hrow
    clear hrow hss
    go_enter Tryz.func75, Tryz.ntmps75
    go_wp2
    go_loopw [1, 5] (fun x i wr => ∃ j m : Nat, j ≤ ws.length ∧ i = .int .i64 (j : Int) ∧ x = .int .i64 (m : Int) ∧ Hid (m = k + 2 * j) ∧ Row wr g (wmixed k j ws) ∧ w.grownBy wr (some g)) (fun _ i _ => ws.length - (intOf i).toNat)
    case atStart => exact ⟨0, k, Nat.zero_le _, rfl, rfl, hid rfl, hr0, grown_refl _ _⟩
    case round =>
      clear hr0
      obtain ⟨j, m, hj, rfl, rfl, HM, hrow, hgr⟩ := hrel
      have HR := hid hrow
      have HG := hid hgr
      clear hgr
      by_cases hlt : j < ws.length
      · have hL := wmixed_length k j ws hj
        obtain ⟨u, hu⟩ : ∃ u, wr.cell? ⟨g, j * 2, none⟩ = some u := ⟨_, hrow.cell (j * 2) _ (List.getElem?_eq_getElem (by omega))⟩
        have hf := hrow.froz (j * 2) (by omega)
        have HL := hid hL
        have hmj : (m : Int) ≤ 99999999 := by have := HM.out; omega
        have hmj0 : (0 : Int) < (m : Int) := by have := HM.out; omega
        have HR1 := hid (hrow.set (j * 2) (by omega) (.int .i64 (m : Int)))
        clear hL hrow
        go_wp2_with (go_at_call 170; refine (mark_text' ((m : Int) + 1) (m + 1) (by omega) _ (by omega) (by omega)).mono ?_; rintro e w2 ⟨rfl, hb2⟩; have hr2 := HR1.out.below hb2; obtain ⟨u2, hu2⟩ : ∃ u, w2.cell? ⟨g, j * 2 + 1, none⟩ = some u := ⟨_, hr2.cell (j * 2 + 1) _ (List.getElem?_eq_getElem (by rw [List.length_set, HL.out]; omega))⟩; have hf2 := hr2.froz (j * 2 + 1) (by rw [List.length_set, HL.out]; omega); have HR2 := hid hr2; have HB2 := hid hb2; clear hr2 hb2)
        have hset : ((wmixed k j ws).set (j * 2) (.int .i64 (m : Int))).set (j * 2 + 1) (.string (mtext (m + 1))) = wmixed k (j + 1) ws := by
          rw [HM.out]; exact wmixed_set k j ws hlt
        go_roundw
        case rel => exact ⟨j + 1, m + 2, by omega, by go_num, by go_num, by show _ = _; have := HM.out; omega, by rw [← hset]; exact HR2.out.set (j * 2 + 1) (by rw [List.length_set, HL.out]; omega) _, grown_set (grown_trans (grown_set HG.out _ _) (grown_of_below _ HB2.out)) _ _⟩
        case measure => simp [intOf]; omega
      · have hjl : Hid (j = ws.length) := by show _ = _; omega
        clear hrow
        go_wp2
        go_ret
        refine ⟨ret_int (by rw [HM.out, hjl.out]), HG.out, .inr ⟨g, rfl, ?_⟩⟩
        have := HR.out
        rw [hjl.out] at this
        simpa [wmixed] using this
set_option maxHeartbeats 16000000 in
theorem mark_disk (a : Option Addr) (ss : List ByteArray) (c : Nat) (a' : Option Addr) (ws : List (Int × ByteArray)) (c' k : Nat) (w : World) (h : OwnD w a ss a' ws) (hk : 0 < k) (hl : k + ss.length + 2 * ws.length ≤ 100000000) :
    Calls Tryz.prog 15 #[diskV a ss.length c a' ws.length c', .int .i64 (k : Int)] w fun e w' => e = .returned (.int .i64 ((k + ss.length + 2 * ws.length : Nat) : Int)) ∧ (∃ w1 w2, Below w.heap.size w w1 ∧ w1.grownBy w2 (blk a ss.length) ∧ w2.grownBy w' (blk a' ws.length)) ∧ OwnD w' a (marks k ss.length) a' (wmarks (k + ss.length) ws.length) := by
  have hb0 : ∀ o, Below w.heap.size w (w.alloc o) := fun o => (Below.refl _ _).alloc (Nat.le_refl _) _
  have l1 := h.s.lt ss.length strs_ne
  have l2 := h.p.lt ws.length wcells_ne
  go_enter Tryz.func15, Tryz.ntmps15
  go_wp2_with fail
  refine (mark_strs a ss c k _ (h.s.below (hb0 _)) hk (by omega)).mono ?_
  rintro e w1 ⟨rfl, hg1, ho1⟩
  have q1 : w1.cell? ⟨w.heap.size, 1, none⟩ = some (.slice a' ws.length c') := (World.cell?_of_block (a := ⟨w.heap.size, 1, none⟩) (hg1.block w.heap.size (by simp) (fun e => by have := l1 _ e.symm; omega))).trans (by go_simp)
  have hp1 : OwnS w1 a' (wcells ws) := (h.p.below (hb0 _)).grown hg1 (fun g hg hne => by
    rcases h.ne with h0 | h0 | h0
    · rw [h0]; simp
    · subst hg; rw [blk_pos g 0 _ (ne_of_wcells hne)] at h0; cases h0
    · subst hg; rw [blk_pos g 0 _ (ne_of_wcells hne)] at h0; exact fun e => h0 e.symm)
  have HG1 := hid hg1
  have HO1 := hid ho1
  obtain ⟨m, HM⟩ : ∃ m, Hid (m = k + ss.length) := ⟨_, hid rfl⟩
  rw [← HM.out]
  clear hg1 ho1
  go_wp2_with fail
  refine (mark_wrs a' ws c' m _ hp1 (by have := HM.out; omega) (by have := HM.out; omega)).mono ?_
  rintro e w2 ⟨rfl, hg2, ho2⟩
  clear q1 hp1
  have HG2 := hid hg2
  have HO2 := hid ho2
  clear hg2 ho2 l1 l2
  go_wp2
  go_ret
  refine ⟨ret_int (by have := HM.out; omega), ⟨_, w1, hb0 _, HG1.out, HG2.out⟩, ?_, ?_, ?_⟩
  · refine HO1.out.grown HG2.out (fun g hg hne => ?_)
    have hn1 : ss.length ≠ 0 := by have := ne_of_strs hne; rwa [marks_length] at this
    subst hg
    rcases h.ne with h0 | h0 | h0
    · rw [blk_pos g 0 _ hn1] at h0; cases h0
    · rw [h0]; simp
    · rwa [blk_pos g 0 _ hn1] at h0
  · rw [← HM.out]; exact HO2.out
  · rw [marks_length, wmarks_length]; exact h.ne
end Go.Proofs.YtnmaknnnmjfhkagGreatDoor
