import Derived.Test.YtnmaknnnmjfhkafGreatProg
import Derived.Test.YtnmaknnnmjfhkafGreatMgXCommit10
import Derived.WalkKit
import Derived.WalkSpells
import Derived.WalkLawsBesides
import Derived.Outline
import Derived.BigQuiet
import Derived.Deep.QuietTactic
import Derived.Deep.RegionHeld3
import Derived.Test.YtnmaknnnmjfhkafGreatMgXCommit49
import Derived.Deep.Slices
import Derived.ProofKit
import Derived.ChangeOld

set_option maxHeartbeats 16000000
set_option maxRecDepth 8000
namespace Go.Proofs.YtnmaknnnmjfhkafGreat
open Go.RowKit
set_option maxRecDepth 4000
set_option linter.unusedVariables false

theorem info_ch : (Tryz.prog.info? 78).map (fun i => (i.zero, i.size, i.bytes)) = some (some (.agg #[.string ByteArray.empty, .string ByteArray.empty, .bool false]), 3, 40) := by kernel_rfl
set_option maxHeartbeats 16000000 in
theorem sz_ch (s0 : ByteArray) (s1 : ByteArray) (g2 : Bool) (left : Int) (w : World) (h0 : 0 ≤ left) (h1 : left ≤ 1048576) (hs0 : s0.size ≤ 9223372036854775807) (hs1 : s1.size ≤ 9223372036854775807) :
    Calls Tryz.prog 35 #[.agg #[.string s0, .string s1, .bool g2], .int .i64 left] w fun e w' => e = .returned (.int .i64 (szL [s0.size, s1.size] left)) ∧ Below w.heap.size w w' := by
  by_cases c0 : left - (s0.size : Int) < 0
  · have HE : szL [s0.size, s1.size] left = -1 := by simp [szL, c0]
    go_enter Tryz.func35, Tryz.ntmps35
    go_wp2
    go_ret
    exact ⟨ret_int (by first | rfl | exact HE.symm), (Below.refl _ _).alloc (Nat.le_refl _) _⟩
  · by_cases c1 : left - (s0.size : Int) - (s1.size : Int) < 0
    · have HE : szL [s0.size, s1.size] left = -1 := by simp [szL, c0, c1]
      go_enter Tryz.func35, Tryz.ntmps35
      go_wp2
      go_ret
      exact ⟨ret_int (by first | rfl | exact HE.symm), (Below.refl _ _).alloc (Nat.le_refl _) _⟩
    · have HE : szL [s0.size, s1.size] left = left - (s0.size : Int) - (s1.size : Int) := by simp [szL, c0, c1]
      go_enter Tryz.func35, Tryz.ntmps35
      go_wp2
      go_ret
      exact ⟨ret_int (by first | rfl | exact HE.symm), (Below.refl _ _).alloc (Nat.le_refl _) _⟩

set_option maxHeartbeats 16000000 in
theorem sz_chs (a : Option Addr) (rs : List (ByteArray × ByteArray × Bool)) (c : Nat) (left : Int) (w : World) (h : Chs w a rs) (h0 : 0 ≤ left) (h1 : left ≤ 1048576) (hl : rs.length ≤ maxLen) (hs : ∀ s ∈ rs, s.1.size ≤ maxLen ∧ s.2.1.size ≤ maxLen) :
    Calls Tryz.prog 14 #[.slice a rs.length c, .int .i64 left] w fun e w' => e = .returned (.int .i64 (szL (rs.length :: rs.flatMap chsz) left)) ∧ Below w.heap.size w w' := by
  unfold maxLen at hl
  by_cases hn : left - (rs.length : Int) < 0
  · have HR := hid (szL_cons_lt (rs.flatMap chsz) hn)
    go_enter Tryz.func14, Tryz.ntmps14
    go_wp2
    go_ret
    exact ⟨ret_int HR.out.symm, Below.refl _ _⟩
  · have HR := hid (szL_cons_ge (rs.flatMap chsz) hn)
    obtain ⟨R, HE⟩ : ∃ R, Hid (R = szL (rs.length :: rs.flatMap chsz) left) := ⟨_, hid rfl⟩
    rw [← HE.out]
    go_enter Tryz.func14, Tryz.ntmps14
    go_wp2
    go_loopw [1, 5] (fun x i wr => ∃ (k : Nat) (y : Int), k ≤ rs.length ∧ i = .int .i64 k ∧ x = .int .i64 y ∧ 0 ≤ y ∧ y ≤ 1048576 ∧ Hid (szL ((rs.drop k).flatMap chsz) y = R) ∧ Below w.heap.size w wr) (fun _ i _ => rs.length - (intOf i).toNat)
    case atStart => exact ⟨0, _, Nat.zero_le _, rfl, rfl, by omega, by omega, by show _ = _; rw [HE.out, HR.out, List.drop_zero], Below.refl _ _⟩
    case round =>
      obtain ⟨k, y, hk, rfl, rfl, hy0, hy1, HZ, hbel⟩ := hrel
      by_cases hlt : k < rs.length
      · obtain ⟨b, o, s0, s1, g2, rfl, hc0, hc1, hc2, HS⟩ := (h.below hbel).at hlt
        obtain ⟨q0, q1⟩ : s0.size ≤ 9223372036854775807 ∧ s1.size ≤ 9223372036854775807 := by
          have := hs (s0, s1, g2) (by rw [HS.out]; simp [List.getD, hlt])
          unfold maxLen at this; exact this
        obtain ⟨y', HY⟩ : ∃ y', Hid (y' = szL [s0.size, s1.size] y) := ⟨_, hid rfl⟩
        have hbd := szL_bd [s0.size, s1.size] y hy0
        rw [← HY.out] at hbd
        have HD : Hid (szL ((rs.drop k).flatMap chsz) y = szL ([s0.size, s1.size] ++ (rs.drop (k + 1)).flatMap chsz) y) := by
          show _ = _
          rw [drop_at rs k (ByteArray.empty, ByteArray.empty, false) hlt, ← HS.out]
          rfl
        by_cases hy : y' < 0
        · have hy2 : y' = -1 := by omega
          have HN := hid (szL_append_no [s0.size, s1.size] ((rs.drop (k + 1)).flatMap chsz) y hy0 (by rw [← HY.out]; exact hy))
          clear hbd
          subst hy2
          go_wp2_with (go_at_call 35; refine (sz_ch s0 s1 g2 y _ hy0 hy1 q0 q1).mono ?_; rw [← HY.out]; rintro e w2 ⟨rfl, hb2⟩)
          go_ret
          refine ⟨ret_int ?_, hbel.trans (hb2.mono hbel.size)⟩
          rw [← HZ.out, HD.out, HN.out]
        · have hy2 : 0 ≤ y' := by omega
          have hy3 : y' ≤ 1048576 := by omega
          have HN := hid (szL_append_yes [s0.size, s1.size] ((rs.drop (k + 1)).flatMap chsz) y hy0 (by rw [← HY.out]; exact hy2))
          clear hbd
          go_wp2_with (go_at_call 35; refine (sz_ch s0 s1 g2 y _ hy0 hy1 q0 q1).mono ?_; rw [← HY.out]; rintro e w2 ⟨rfl, hb2⟩)
          go_roundw
          case rel => exact ⟨k + 1, _, by omega, by go_num, rfl, by omega, by omega, by show _ = _; rw [← HZ.out, HD.out, HN.out, ← HY.out], hbel.trans (hb2.mono hbel.size)⟩
          case measure => simp [intOf]; omega
      · go_wp2
        go_ret
        refine ⟨ret_int ?_, hbel⟩
        rw [← HZ.out, List.drop_of_length_le (by omega)]
        rfl

set_option maxHeartbeats 16000000 in
theorem to_ch (s0 : ByteArray) (s1 : ByteArray) (g2 : Bool) (w : World) :
    Calls Tryz.prog 44 #[.agg #[.string s0, .string s1, .bool g2]] w fun e w' => e = .returned (.agg #[.string s0, .string s1, .bool g2]) ∧ Below w.heap.size w w' := by
  go_enter Tryz.func44, Tryz.ntmps44
  go_wp2
  exact bodyPost_ret (v := .agg #[.string s0, .string s1, .bool g2]) (by simp [results, Tryz.results44, go_sem]) rfl ⟨rfl, (((Below.refl _ _).alloc (Nat.le_refl _) _).alloc (by simp) _).alloc (by simp; omega) _⟩

set_option maxHeartbeats 16000000 in
theorem to_chs (a : Option Addr) (rs : List (ByteArray × ByteArray × Bool)) (c : Nat) (w : World) (h : Chs w a rs) (hl : rs.length ≤ 1048576) :
    Calls Tryz.prog 16 #[.slice a rs.length c] w fun e w' => ∃ g, e = .returned (.slice (some ⟨g, 0, none⟩) rs.length rs.length) ∧ w.heap.size ≤ g ∧ Row w' g (chcells rs) ∧ Below w.heap.size w w' := by
  go_enter Tryz.func16, Tryz.ntmps16
  go_wp2_with (at_make; refine wpList_make_new rfl _ _ 49 rfl 78 _ 3 _ Tryz.underlying49 info_ch rs.length rfl rfl (by omega) (by omega) ?_; intro wx hrow hbx hsx; rw [made_chs] at hrow)
  have hr0 : Row wx w.heap.size (chupTo rs 0) := by simpa [chupTo, chcells_nil] using hrow
  clear hrow
  go_loopw [4] (fun i wr => ∃ k : Nat, k ≤ rs.length ∧ i = .int .i64 k ∧ Row wr w.heap.size (chupTo rs k) ∧ Below w.heap.size w wr) (fun i _ => rs.length - (intOf i).toNat)
  case atStart => exact ⟨0, Nat.zero_le _, rfl, hr0, hbx⟩
  case round =>
    obtain ⟨k, hk, rfl, hrow, hbel⟩ := hrel
    by_cases hlt : k < rs.length
    · obtain ⟨b, o, s0, s1, g2, rfl, hc0, hc1, hc2, HS⟩ := (h.below hbel).at hlt
      have HB := hid hbel
      have HR := hid hrow
      clear hrow hbel
      go_wp2_with (go_at_call 44; refine (to_ch s0 s1 g2 _).mono ?_; rintro e w2 ⟨rfl, hb2⟩; have hr2 := HR.out.below hb2; have hl2 := chupTo_length rs k hk; obtain ⟨u0, hu0⟩ : ∃ u, w2.cell? ⟨w.heap.size, k * 3, none⟩ = some u := ⟨_, hr2.cell (k * 3) _ (List.getElem?_eq_getElem (by omega))⟩; obtain ⟨u1, hu1⟩ : ∃ u, w2.cell? ⟨w.heap.size, k * 3 + 1, none⟩ = some u := ⟨_, hr2.cell (k * 3 + 1) _ (List.getElem?_eq_getElem (by omega))⟩; obtain ⟨u2, hu2⟩ : ∃ u, w2.cell? ⟨w.heap.size, k * 3 + 2, none⟩ = some u := ⟨_, hr2.cell (k * 3 + 2) _ (List.getElem?_eq_getElem (by omega))⟩; have hf0 := hr2.froz (k * 3) (by omega); have hf1 := hr2.froz (k * 3 + 1) (by omega); have hf2 := hr2.froz (k * 3 + 2) (by omega); have HR2 := hid hr2; have HL2 := hid hl2; clear hr2 hl2)
      have hrs := ((HR2.out.set (k * 3) (by rw [HL2.out]; omega) (.string s0)).set (k * 3 + 1) (by rw [List.length_set, HL2.out]; omega) (.string s1)).set (k * 3 + 2) (by rw [List.length_set, List.length_set, HL2.out]; omega) (.bool g2)
      have hus : (((chupTo rs k).set (k * 3) (.string s0)).set (k * 3 + 1) (.string s1)).set (k * 3 + 2) (.bool g2) = chupTo rs (k + 1) := by
        have e := HS.out
        rw [show s0 = (rs.getD k (ByteArray.empty, ByteArray.empty, false)).1 by rw [← e], show s1 = (rs.getD k (ByteArray.empty, ByteArray.empty, false)).2.1 by rw [← e], show g2 = (rs.getD k (ByteArray.empty, ByteArray.empty, false)).2.2 by rw [← e]]
        exact chupTo_set rs k hlt
      rw [hus] at hrs
      go_roundw
      case rel => exact ⟨k + 1, by omega, by go_num, hrs, (((HB.out.trans (hb2.mono HB.out.size)).setCell (Nat.le_refl _) _).setCell (Nat.le_refl _) _).setCell (Nat.le_refl _) _⟩
      case measure => simp [intOf]; omega
    · go_wp2
      go_ret
      exact ⟨w.heap.size, rfl, Nat.le_refl _, by rw [← chupTo_all rs k (by omega)]; exact hrow, hbel⟩

end Go.Proofs.YtnmaknnnmjfhkafGreat

namespace Go.Proofs.YtnmaknnnmjfhkafGreat
open Go.RowKit
set_option maxRecDepth 4000
set_option linter.unusedVariables false

set_option maxHeartbeats 16000000 in
theorem eq_ch (s0 : ByteArray) (s1 : ByteArray) (g2 : Bool) (w : World) :
    Calls Tryz.prog 53 #[.agg #[.string s0, .string s1, .bool g2], .agg #[.string s0, .string s1, .bool g2]] w fun e w' => e = .returned (.bool true) ∧ Below w.heap.size w w' := by
  go_enter Tryz.func53, Tryz.ntmps53
  go_wp2
  go_ret
  exact ⟨rfl, ((Below.refl _ _).alloc (Nat.le_refl _) _).alloc (by simp) _⟩

set_option maxHeartbeats 16000000 in
theorem eq_chs (a b : Option Addr) (rs : List (ByteArray × ByteArray × Bool)) (c c' : Nat) (w : World) (h : Chs w a rs) (h' : Chs w b rs) (hl : rs.length ≤ 1048576) :
    Calls Tryz.prog 18 #[.slice a rs.length c, .slice b rs.length c'] w fun e w' => e = .returned (.bool true) ∧ Below w.heap.size w w' := by
  go_enter Tryz.func18, Tryz.ntmps18
  go_wp2
  go_loopw [5] (fun i wr => ∃ k : Nat, k ≤ rs.length ∧ i = .int .i64 k ∧ Below w.heap.size w wr) (fun i _ => rs.length - (intOf i).toNat)
  case atStart => exact ⟨0, Nat.zero_le _, rfl, Below.refl _ _⟩
  case round =>
    obtain ⟨k, hk, rfl, hbel⟩ := hrel
    by_cases hlt : k < rs.length
    · obtain ⟨b1, o1, s0, s1, g2, rfl, hc0, hc1, hc2, HS⟩ := (h.below hbel).at hlt
      obtain ⟨b2, o2, s0x, s1x, g2x, rfl, hd0, hd1, hd2, HS'⟩ := (h'.below hbel).at hlt
      obtain ⟨rfl, rfl, rfl⟩ : s0 = s0x ∧ s1 = s1x ∧ g2 = g2x := by have := HS.out.trans HS'.out.symm; simpa using this
      have hk1 : (k : Int) < (rs.length : Int) := by omega
      have hk0 : (0 : Int) ≤ (k : Int) := by omega
      have lt1 : b1 < wr.heap.size := by have := World.block_lt_of_cell? wr _ hc0; simpa using this
      have lt2 : b2 < wr.heap.size := by have := World.block_lt_of_cell? wr _ hd0; simpa using this
      have HQ : Hid (wr.cell? ⟨b1, o1 + k * 3, none⟩ = some (.string s0) ∧ wr.cell? ⟨b1, o1 + k * 3 + 1, none⟩ = some (.string s1) ∧ wr.cell? ⟨b1, o1 + k * 3 + 2, none⟩ = some (.bool g2) ∧ wr.cell? ⟨b2, o2 + k * 3, none⟩ = some (.string s0) ∧ wr.cell? ⟨b2, o2 + k * 3 + 1, none⟩ = some (.string s1) ∧ wr.cell? ⟨b2, o2 + k * 3 + 2, none⟩ = some (.bool g2)) := ⟨hc0, hc1, hc2, hd0, hd1, hd2⟩
      clear HS HS' hc0 hc1 hc2 hd0 hd1 hd2
      go_wp2_with fail
      go_region_held3 (fun w' => w'.cell? ⟨b1, o1 + k * 3, none⟩ = some (.string s0) ∧ w'.cell? ⟨b1, o1 + k * 3 + 1, none⟩ = some (.string s1) ∧ w'.cell? ⟨b1, o1 + k * 3 + 2, none⟩ = some (.bool g2) ∧ w'.cell? ⟨b2, o2 + k * 3, none⟩ = some (.string s0) ∧ w'.cell? ⟨b2, o2 + k * 3 + 1, none⟩ = some (.string s1) ∧ w'.cell? ⟨b2, o2 + k * 3 + 2, none⟩ = some (.bool g2))
        (first | assumption | exact HQ.out | exact ⟨(hb2.cell (p := ⟨b1, _, none⟩) lt1).trans HQ.out.1, (hb2.cell (p := ⟨b1, _, none⟩) lt1).trans HQ.out.2.1, (hb2.cell (p := ⟨b1, _, none⟩) lt1).trans HQ.out.2.2.1, (hb2.cell (p := ⟨b2, _, none⟩) lt2).trans HQ.out.2.2.2.1, (hb2.cell (p := ⟨b2, _, none⟩) lt2).trans HQ.out.2.2.2.2.1, (hb2.cell (p := ⟨b2, _, none⟩) lt2).trans HQ.out.2.2.2.2.2⟩)
        (first | (go_at_call 53; refine (eq_ch s0 s1 g2 _).mono ?_; rintro e w2 ⟨rfl, hb2⟩))
      go_wp2
      go_roundw
      case rel => exact ⟨k + 1, by omega, by go_num, hbel.drew.trans (hb2.mono hbel.size)⟩
      case measure => simp [intOf]; omega
    · go_wp2
      go_ret
      exact ⟨rfl, hbel⟩
end Go.Proofs.YtnmaknnnmjfhkafGreat

namespace Go.Proofs.YtnmaknnnmjfhkafGreat
open Go.RowKit Go.ChangeShapes Go.WideShapes Go.Deep
section
variable {H : Type} {enc : TypeId × Value → H} {P : Program} {w : World} {base : Nat} {spare : Nat → Bool} {held : Bool}
theorem chs_of_trod {t e : TypeId} {f0 f1 f2 : Field} {fuel : Nat} {v : Value} {x : DataW H × List MemPlace} (ht : P.underlying t = some (.slice e)) (he : P.underlying e = some (.struct #[f0, f1, f2]))
    (ce : P.cellsOf e = 3) (o0 : f0.offset = 0) (o1 : f1.offset = 1) (o2 : f2.offset = 2) (c0 : P.cellsOf f0.type = 1) (c1 : P.cellsOf f1.type = 1) (c2 : P.cellsOf f2.type = 1) (t0 : P.underlying f0.type = some .string) (t1 : P.underlying f1.type = some .string) (t2 : P.underlying f2.type = some .bool)
    (h : DataW.trod enc P w base spare held fuel t [v] = some x) : ∃ a rs c, v = .slice a rs.length c ∧ Chs w a rs ∧ rs.length ≤ maxLen ∧ (∀ s ∈ rs, s.1.size ≤ maxLen ∧ s.2.1.size ≤ maxLen) := by
  rcases open_slice ht h with ⟨hcs, _⟩ | ⟨a, len, cap, m, n, D, Pl, hcs, hb, hl, hm, hmm, _, hx⟩
  · simp at hcs
    exact ⟨none, [], 0, by simpa using hcs, .inl rfl, by simp, by simp⟩
  · simp at hcs
    have hlm : len ≤ m := by rw [hmm]; split <;> omega
    have each : ∀ i, i < len → ∃ q : ByteArray × ByteArray × Bool, w.cell? (a.add (i * 3)) = some (.string q.1) ∧ w.cell? (a.add (i * 3 + 1)) = some (.string q.2.1) ∧ w.cell? (a.add (i * 3 + 2)) = some (.bool q.2.2) ∧ q.1.size ≤ maxLen ∧ q.2.1.size ≤ maxLen := by
      intro i hi
      obtain ⟨cs', h1, h2⟩ := hx i (by omega)
      rw [ce] at h1
      obtain ⟨_, hlen, hcell⟩ := World.cells?_some h1
      obtain ⟨xs, k, hk, hxy, _, hxl, hf⟩ := DataW.trod_struct he h2
      match xs, hxl, cs', hlen with
      | [y0, y1, y2], _, [v0, v1, v2], _ =>
        have g0 := hf 0 f0 rfl
        have g1 := hf 1 f1 rfl
        have g2 := hf 2 f2 rfl
        simp [o0, o1, o2, c0, c1, c2] at g0 g1 g2
        have e0 := hcell 0 (by omega)
        have e1 := hcell 1 (by omega)
        have e2 := hcell 2 (by omega)
        rw [add_add] at e0 e1 e2
        obtain ⟨z0, ez0, _, wz0⟩ := DataW.trod_string t0 g0
        simp at ez0
        subst ez0
        obtain ⟨z1, ez1, _, wz1⟩ := DataW.trod_string t1 g1
        simp at ez1
        subst ez1
        obtain ⟨z2, ez2, _⟩ := DataW.trod_bool t2 g2
        simp at ez2
        subst ez2
        exact ⟨(z0, z1, z2), by simpa using e0, by simpa using e1, by simpa using e2, wz0, wz1⟩
    obtain ⟨q, hq⟩ := choose_lt each
    have e1 : ((List.range len).map q).length = len := by simp
    refine ⟨some a, (List.range len).map q, cap, by rw [e1]; exact hcs, ?_, by omega, fun s hs => ?_⟩
    · by_cases h0 : len = 0
      · exact .inl (by subst h0; simp)
      · have hq0 := (hq 0 (by omega)).1
        obtain ⟨b, o, rfl⟩ := add_none hq0 ⟨_, hq0⟩
        have hb := World.block_lt_of_cell? w _ hq0
        rw [add_mk] at hb
        refine .inr ⟨b, o, rfl, hb, fun i hi => ?_⟩
        rw [e1] at hi
        obtain ⟨h0, h1, h2, _⟩ := hq i hi
        rw [add_mk] at h0 h1 h2
        have eg : ((List.range len).map q).getD i (ByteArray.empty, ByteArray.empty, false) = q i := by simp [List.getD, hi]
        rw [eg]
        exact ⟨h0, by rw [Nat.add_assoc]; exact h1, by rw [Nat.add_assoc]; exact h2⟩
    · obtain ⟨i, hi, rfl⟩ := List.mem_map.1 hs
      exact (hq i (by simpa using hi)).2.2.2
end
end Go.Proofs.YtnmaknnnmjfhkafGreat
