import Derived.Test.YtnmaknnnmjfhkaeDoorQxScanSz
import Derived.Test.YtnmaknnnmjfhkaeDoorQxScanRow
namespace Go.Proofs.YtnmaknnnmjfhkaeDoor
open Go.RowKit
set_option maxRecDepth 4000

theorem infoStr : (Tryd.prog.info? 9).map (fun i => (i.zero, i.size, i.bytes)) = some (some (.string ByteArray.empty), 1, 16) := by kernel_rfl
theorem infoWr : (Tryd.prog.info? 121).map (fun i => (i.zero, i.size, i.bytes)) = some (some (.agg #[.int .i64 0, .string ByteArray.empty]), 2, 24) := by kernel_rfl

set_option maxHeartbeats 400000 in
theorem to_strs (a : Option Addr) (ss : List ByteArray) (c : Nat) (w : World) (h : Strs w a ss) (hl : ss.length ≤ 1048576) :
    Calls Tryd.prog 58 #[.slice a ss.length c] w fun e w' => ∃ g, e = .returned (.slice (some ⟨g, 0, none⟩) ss.length ss.length) ∧ w.heap.size ≤ g ∧ Row w' g (ss.map Value.string) ∧ Below w.heap.size w w' := by
  go_enter Tryd.func58, Tryd.ntmps58
  go_wp2_with (at_make; refine wpList_make_new rfl _ _ 25 rfl 9 _ 1 16 Tryd.underlying25 infoStr ss.length rfl rfl (by omega) (by omega) ?_; intro wx hrow hbx hsx; rw [made_strs] at hrow)
  have hr0 : Row wx w.heap.size (upTo ss 0) := by simpa [upTo] using hrow
  clear hrow
  go_loopw [4] (fun i wr => ∃ k : Nat, k ≤ ss.length ∧ i = .int .i64 k ∧ Row wr w.heap.size (upTo ss k) ∧ Below w.heap.size w wr) (fun i _ => ss.length - (intOf i).toNat)
  case atStart => exact ⟨0, Nat.zero_le _, rfl, hr0, hbx⟩
  case round =>
    obtain ⟨k, hk, rfl, hrow, hbel⟩ := hrel
    by_cases hlt : k < ss.length
    · obtain ⟨b, o, s, rfl, hc, HS⟩ := (h.below hbel).at hlt
      have hlu := upTo_length ss k hk
      obtain ⟨u, hu⟩ : ∃ u, wr.cell? ⟨w.heap.size, k, none⟩ = some u := ⟨_, hrow.cell k _ (List.getElem?_eq_getElem (by omega))⟩
      have hf := hrow.froz k (by omega)
      have HR := hid (hrow.set k (by omega) (.string s))
      have HU : Hid ((upTo ss k).set k (.string s) = upTo ss (k + 1)) := by show _ = _; rw [HS.out]; exact upTo_set ss k hlt
      clear hrow hlu
      go_wp2
      go_roundw
      case rel => exact ⟨k + 1, by omega, by go_num, by rw [← HU.out]; exact HR.out, hbel.setCell (Nat.le_refl _) _⟩
      case measure => simp [intOf]; omega
    · go_wp2
      go_ret
      exact ⟨w.heap.size, rfl, Nat.le_refl _, by rw [← upTo_all ss k (by omega)]; exact hrow, hbel⟩

theorem bcell {W w1 : World} (hb : Below W.heap.size W w1) : (∀ b o, b < W.heap.size → w1.cell? ⟨b, o, none⟩ = W.cell? ⟨b, o, none⟩) ∧ (∀ b o, b < W.heap.size → w1.frozen? ⟨b, o, none⟩ = W.frozen? ⟨b, o, none⟩) :=
  ⟨fun b o h => hb.cell (p := ⟨b, o, none⟩) h, fun b o h => hb.frozen (p := ⟨b, o, none⟩) h⟩

set_option maxHeartbeats 400000 in
theorem to_wr (n : Int) (s : ByteArray) (w : World) :
    Calls Tryd.prog 85 #[.agg #[.int .i64 n, .string s]] w fun e w' => e = .returned (.agg #[.int .i64 n, .string s]) ∧ Below w.heap.size w w' := by
  go_enter Tryd.func85, Tryd.ntmps85
  go_wp2
  exact bodyPost_ret (v := .agg #[.int .i64 n, .string s]) (by simp [results, Tryd.results85, go_sem]) rfl ⟨rfl, (((Below.refl _ _).alloc (Nat.le_refl _) _).alloc (by simp) _).alloc (by simp; omega) _⟩

set_option maxHeartbeats 400000 in
theorem to_wrs (a : Option Addr) (ws : List (Int × ByteArray)) (c : Nat) (w : World) (h : Wrs w a ws) (hl : ws.length ≤ 1048576) :
    Calls Tryd.prog 59 #[.slice a ws.length c] w fun e w' => ∃ g, e = .returned (.slice (some ⟨g, 0, none⟩) ws.length ws.length) ∧ w.heap.size ≤ g ∧ Row w' g (wcells ws) ∧ Below w.heap.size w w' := by
  go_enter Tryd.func59, Tryd.ntmps59
  go_wp2_with (at_make; refine wpList_make_new rfl _ _ 29 rfl 121 _ 2 24 Tryd.underlying29 infoWr ws.length rfl rfl (by omega) (by omega) ?_; intro wx hrow hbx hsx; rw [made_wrs] at hrow)
  have hr0 : Row wx w.heap.size (wupTo ws 0) := by simpa [wupTo, wcells_nil] using hrow
  clear hrow
  go_loopw [4] (fun i wr => ∃ k : Nat, k ≤ ws.length ∧ i = .int .i64 k ∧ Row wr w.heap.size (wupTo ws k) ∧ Below w.heap.size w wr) (fun i _ => ws.length - (intOf i).toNat)
  case atStart => exact ⟨0, Nat.zero_le _, rfl, hr0, hbx⟩
  case round =>
    obtain ⟨k, hk, rfl, hrow, hbel⟩ := hrel
    by_cases hlt : k < ws.length
    · obtain ⟨b, o, n, s, rfl, hc, hc2, HS⟩ := (h.below hbel).at hlt
      have HB := hid hbel
      have HR := hid hrow
      clear hrow hbel
      go_wp2_with (go_at_call 85; refine (to_wr n s _).mono ?_; rintro e w2 ⟨rfl, hb2⟩; have hr2 := HR.out.below hb2; have hl2 := wupTo_length ws k hk; obtain ⟨u, hu⟩ : ∃ u, w2.cell? ⟨w.heap.size, k * 2, none⟩ = some u := ⟨_, hr2.cell (k * 2) _ (List.getElem?_eq_getElem (by omega))⟩; obtain ⟨u', hu'⟩ : ∃ u', w2.cell? ⟨w.heap.size, k * 2 + 1, none⟩ = some u' := ⟨_, hr2.cell (k * 2 + 1) _ (List.getElem?_eq_getElem (by omega))⟩; have hf := hr2.froz (k * 2) (by omega); have hf' := hr2.froz (k * 2 + 1) (by omega); have HR2 := hid hr2; have HL2 := hid hl2; clear hr2 hl2)
      have hrs := (HR2.out.set (k * 2) (by rw [HL2.out]; omega) (.int .i64 n)).set (k * 2 + 1) (by rw [List.length_set, HL2.out]; omega) (.string s)
      have hus : ((wupTo ws k).set (k * 2) (.int .i64 n)).set (k * 2 + 1) (.string s) = wupTo ws (k + 1) := by
        have e := HS.out
        rw [show n = (ws.getD k (0, ByteArray.empty)).1 by rw [← e], show s = (ws.getD k (0, ByteArray.empty)).2 by rw [← e]]
        exact wupTo_set ws k hlt
      rw [hus] at hrs
      go_roundw
      case rel => exact ⟨k + 1, by omega, by go_num, hrs, ((HB.out.trans (hb2.mono HB.out.size)).setCell (Nat.le_refl _) _).setCell (Nat.le_refl _) _⟩
      case measure => simp [intOf]; omega
    · go_wp2
      go_ret
      exact ⟨w.heap.size, rfl, Nat.le_refl _, by rw [← wupTo_all ws k (by omega)]; exact hrow, hbel⟩

set_option maxHeartbeats 800000 in
theorem to_disk (a : Option Addr) (ss : List ByteArray) (c : Nat) (a' : Option Addr) (ws : List (Int × ByteArray)) (c' : Nat) (w : World) (h : Strs w a ss) (h' : Wrs w a' ws) (hl : ss.length ≤ 1048576) (hl' : ws.length ≤ 1048576) :
    Calls Tryd.prog 18 #[diskV a ss.length c a' ws.length c'] w fun e w' => ∃ g g', e = .returned (diskV (some ⟨g, 0, none⟩) ss.length ss.length (some ⟨g', 0, none⟩) ws.length ws.length) ∧ w.heap.size ≤ g ∧ w.heap.size ≤ g' ∧ g ≠ g' ∧ Row w' g (ss.map Value.string) ∧ Row w' g' (wcells ws) ∧ Below w.heap.size w w' := by
  have hb0 : ∀ o1 o2 o3, Below w.heap.size w (((w.alloc o1).alloc o2).alloc o3) := fun o1 o2 o3 => (((Below.refl _ _).alloc (Nat.le_refl _) _).alloc (by simp) _).alloc (by simp; omega) _
  go_enter Tryd.func18, Tryd.ntmps18
  go_wp2_with fail
  refine (to_strs a ss c _ (h.below (hb0 _ _ _)) hl).mono ?_
  rintro e w1 ⟨g, rfl, hg, hr1, hb1⟩
  have hB1 := (hb0 _ _ _).trans (hb1.mono (by simp; omega))
  have hs1 := hb1.size
  obtain ⟨q1, q2⟩ := bcell hb1
  simp only [World.size_alloc] at hg hs1
  have HB1 := hid hb1
  have HR1 := hid hr1
  have HBB := hid hB1
  clear hb1 hr1 hB1
  go_wp2_with fail
  have hBW := HBB.out.setCell (p := ⟨w.heap.size + 1 + 1, 0, none⟩) (by show w.heap.size ≤ w.heap.size + 1 + 1; omega) (Value.slice (some ⟨g, 0, none⟩) ss.length ss.length)
  have HRW := hid (HR1.out.other ⟨w.heap.size + 1 + 1, 0, none⟩ (by show w.heap.size + 1 + 1 ≠ g; omega) (Value.slice (some ⟨g, 0, none⟩) ss.length ss.length))
  refine (to_wrs a' ws c' _ (h'.below hBW) hl').mono ?_
  rintro e w2 ⟨g', rfl, hg', hr2, hb2⟩
  have HBW := hid (hBW.trans (hb2.mono hBW.size))
  have HRX := hid (HRW.out.below hb2)
  have HR2 := hid hr2
  simp only [World.size_setCell] at hg'
  have hgl : g < w1.heap.size := HR1.out.lt
  have hlt1 : w.heap.size + 1 + 1 < (w1.setCell ⟨w.heap.size + 1 + 1, 0, none⟩ (Value.slice (some ⟨g, 0, none⟩) ss.length ss.length)).heap.size := by simp only [World.size_setCell]; omega
  have c20 : w2.cell? ⟨w.heap.size + 1 + 1, 0, none⟩ = some (.slice (some ⟨g, 0, none⟩) ss.length ss.length) := (hb2.cell (p := ⟨w.heap.size + 1 + 1, 0, none⟩) hlt1).trans (by go_simp)
  have c21 : w2.cell? ⟨w.heap.size + 1 + 1, 1, none⟩ = some (.slice none 0 0) := (hb2.cell (p := ⟨w.heap.size + 1 + 1, 1, none⟩) hlt1).trans (by go_simp)
  have f21 : w2.frozen? ⟨w.heap.size + 1 + 1, 1, none⟩ = false := (hb2.frozen (p := ⟨w.heap.size + 1 + 1, 1, none⟩) hlt1).trans (by go_simp)
  have c10 : w2.cell? ⟨w.heap.size + 1, 0, none⟩ = some (.slice none 0 0) := (hb2.cell (p := ⟨w.heap.size + 1, 0, none⟩) (by show w.heap.size + 1 < _; omega)).trans (by go_simp)
  have c11 : w2.cell? ⟨w.heap.size + 1, 1, none⟩ = some (.slice none 0 0) := (hb2.cell (p := ⟨w.heap.size + 1, 1, none⟩) (by show w.heap.size + 1 < _; omega)).trans (by go_simp)
  have f10 : w2.frozen? ⟨w.heap.size + 1, 0, none⟩ = false := (hb2.frozen (p := ⟨w.heap.size + 1, 0, none⟩) (by show w.heap.size + 1 < _; omega)).trans (by go_simp)
  have f11 : w2.frozen? ⟨w.heap.size + 1, 1, none⟩ = false := (hb2.frozen (p := ⟨w.heap.size + 1, 1, none⟩) (by show w.heap.size + 1 < _; omega)).trans (by go_simp)
  clear hb2 hr2 HB1 HR1 HBB HRW hBW q1 q2 hlt1
  go_wp2
  have hgs : w.heap.size + 1 + 1 < g := by omega
  have hgs' : w.heap.size + 1 + 1 < g' := by omega
  refine bodyPost_ret (v := diskV (some ⟨g, 0, none⟩) ss.length ss.length (some ⟨g', 0, none⟩) ws.length ws.length) (by simp [results, Tryd.results18, go_sem, c10, c11]) rfl ⟨g, g', rfl, by omega, by omega, by omega, ?_, ?_, ?_⟩
  · exact ((HRX.out.other _ (by show w.heap.size + 1 + 1 ≠ g; omega) _).other _ (by show w.heap.size + 1 ≠ g; omega) _).other _ (by show w.heap.size + 1 ≠ g; omega) _
  · exact ((HR2.out.other _ (by show w.heap.size + 1 + 1 ≠ g'; omega) _).other _ (by show w.heap.size + 1 ≠ g'; omega) _).other _ (by show w.heap.size + 1 ≠ g'; omega) _
  · exact ((HBW.out.setCell (by show w.heap.size ≤ w.heap.size + 1 + 1; omega) _).setCell (by show w.heap.size ≤ w.heap.size + 1; omega) _).setCell (by show w.heap.size ≤ w.heap.size + 1; omega) _
end Go.Proofs.YtnmaknnnmjfhkaeDoor
