import Derived.Test.YtnmaknnnmjfhkafGreatDoorMgXForged4
import Derived.Test.YtnmaknnnmjfhkafGreatDoorQxForgedLed
namespace Go.Proofs.YtnmaknnnmjfhkafGreatDoor
open Go.RowKit
set_option maxRecDepth 4000
set_option linter.unusedVariables false
set_option linter.unusedSimpArgs false

/-- States in a row of memory. -/
def Pst (w : World) (a : Option Addr) (P : List (List (ByteArray × ByteArray))) : Prop :=
  P = [] ∨ ∃ b o, a = some ⟨b, o, none⟩ ∧ b < w.heap.size ∧ ∀ i, i < P.length → ∃ p c, w.cell? ⟨b, o + i, none⟩ = some (.slice p (P.getD i []).length c) ∧ Prs w p (P.getD i [])
theorem Pst.below {w w' : World} {a : Option Addr} {P : List (List (ByteArray × ByteArray))} (h : Pst w a P) (hb : Below w.heap.size w w') : Pst w' a P := by
  rcases h with h | ⟨b, o, h1, h2, h3⟩
  · exact .inl h
  · refine .inr ⟨b, o, h1, Nat.lt_of_lt_of_le h2 hb.size, fun i hi => ?_⟩
    obtain ⟨p, c, h4, h5⟩ := h3 i hi
    exact ⟨p, c, (hb.cell (p := ⟨b, o + i, none⟩) h2).trans h4, h5.below hb⟩
theorem Pst.at {w : World} {a : Option Addr} {P : List (List (ByteArray × ByteArray))} (h : Pst w a P) {k : Nat} (hk : k < P.length) : ∃ b o p c, a = some ⟨b, o, none⟩ ∧ b < w.heap.size ∧ w.cell? ⟨b, o + k, none⟩ = some (.slice p (P.getD k []).length c) ∧ Hid (Prs w p (P.getD k [])) := by
  rcases h with h | ⟨b, o, h1, h2, h3⟩
  · subst h; simp at hk
  · obtain ⟨p, c, h4, h5⟩ := h3 k hk
    exact ⟨b, o, p, c, h1, h2, h4, hid h5⟩
/-- The sizes that are counted of a state. -/
def stsz (rs : List (ByteArray × ByteArray)) : List Nat := rs.length :: rs.flatMap prsz
/-- The cells of states that lie in blocks of their own, up to k. -/
def pcs (P : List (List (ByteArray × ByteArray))) (gs : Nat → Nat) (k : Nat) : List Value := (List.range P.length).map fun i => if i < k then .slice (some ⟨gs i, 0, none⟩) (P.getD i []).length (P.getD i []).length else .slice none 0 0
theorem pcs_length (P : List (List (ByteArray × ByteArray))) (gs : Nat → Nat) (k : Nat) : (pcs P gs k).length = P.length := by simp [pcs]
theorem pcs_set (P : List (List (ByteArray × ByteArray))) (gs : Nat → Nat) (k g : Nat) (h : k < P.length) : (pcs P gs k).set k (.slice (some ⟨g, 0, none⟩) (P.getD k []).length (P.getD k []).length) = pcs P (fun i => if i = k then g else gs i) (k + 1) := by
  apply List.ext_getElem
  · simp [pcs]
  · intro i h1 h2
    rw [List.getElem_set]
    by_cases e : k = i
    · subst e
      simp [pcs]
    · rw [if_neg e]
      simp only [pcs, List.getElem_map, List.getElem_range]
      by_cases h3 : i < k
      · rw [if_pos h3, if_pos (by omega), if_neg (fun x => e x.symm)]
      · rw [if_neg h3, if_neg (by omega)]
theorem made_pcs (P : List (List (ByteArray × ByteArray))) (gs : Nat → Nat) : (madeCells (Value.agg #[.slice none 0 0]).cells (P.length * 1)).toList = pcs P gs 0 := by
  unfold madeCells pcs
  rw [Array.toList_map, Array.toList_range, Nat.mul_one]
  refine List.map_congr_left fun i _ => ?_
  rw [if_neg (by omega)]
  simp [Value.cells, Nat.mod_one]
/-- States in memory of their own: the row, and the block of each, ascending behind it. -/
structure OwnP (w : World) (g : Nat) (P : List (List (ByteArray × ByteArray))) (gs : Nat → Nat) (k : Nat) : Prop where
  row : Row w g (pcs P gs k)
  st : ∀ i, i < k → Row w (gs i) (prcells (P.getD i [])) ∧ g < gs i
  asc : ∀ i j, i < j → j < k → gs i < gs j
theorem OwnP.below {w w' : World} {g k : Nat} {P : List (List (ByteArray × ByteArray))} {gs : Nat → Nat} (h : OwnP w g P gs k) (hb : Below w.heap.size w w') : OwnP w' g P gs k :=
  ⟨h.row.below hb, fun i hi => ⟨(h.st i hi).1.below hb, (h.st i hi).2⟩, h.asc⟩
theorem OwnP.push {w w' : World} {g k g1 : Nat} {P : List (List (ByteArray × ByteArray))} {gs : Nat → Nat} (h : OwnP w g P gs k) (hb : Below w.heap.size w w') (hg : w.heap.size ≤ g1) (hr : Row w' g1 (prcells (P.getD k []))) (hk : k < P.length) :
    OwnP (w'.setCell ⟨g, k, none⟩ (.slice (some ⟨g1, 0, none⟩) (P.getD k []).length (P.getD k []).length)) g P (fun i => if i = k then g1 else gs i) (k + 1) := by
  have h' := h.below hb
  have hlt := h.row.lt
  refine ⟨?_, fun i hi => ?_, fun i j hij hj => ?_⟩
  · rw [← pcs_set P gs k g1 hk]
    exact h'.row.set k (by rw [pcs_length]; exact hk) _
  · show Row _ (if i = k then g1 else gs i) _ ∧ g < (if i = k then g1 else gs i)
    by_cases e : i = k
    · subst e
      rw [if_pos rfl]
      exact ⟨hr.other _ (by show g ≠ g1; omega) _, by omega⟩
    · rw [if_neg e]
      have := h'.st i (by omega)
      exact ⟨this.1.other _ (by show g ≠ gs i; omega) _, this.2⟩
  · show (if i = k then g1 else gs i) < (if j = k then g1 else gs j)
    rw [if_neg (by omega)]
    by_cases e : j = k
    · rw [if_pos e]
      have := (h.st i (by omega)).1.lt
      omega
    · rw [if_neg e]
      exact h.asc i j hij (by omega)
theorem OwnP.pst {w : World} {g : Nat} {P : List (List (ByteArray × ByteArray))} {gs : Nat → Nat} (h : OwnP w g P gs P.length) : Pst w (some ⟨g, 0, none⟩) P :=
  .inr ⟨g, 0, rfl, h.row.lt, fun i hi => ⟨_, _, by rw [Nat.zero_add]; exact h.row.cell i (.slice (some ⟨gs i, 0, none⟩) (P.getD i []).length (P.getD i []).length) (by simp [pcs, hi]), (h.st i hi).1.prs⟩⟩

set_option maxHeartbeats 1000000 in
theorem sz_past (a : Option Addr) (P : List (List (ByteArray × ByteArray))) (c : Nat) (left : Int) (w : World) (h : Pst w a P) (h0 : 0 ≤ left) (h1 : left ≤ 1048576) (hl : P.length ≤ maxLen) (hs : ∀ rs ∈ P, rs.length ≤ maxLen ∧ ∀ s ∈ rs, s.1.size ≤ maxLen ∧ s.2.size ≤ maxLen) :
    Calls Tryz.prog 24 #[.slice a P.length c, .int .i64 left] w fun e w' => e = .returned (.int .i64 (szL (P.length :: P.flatMap stsz) left)) ∧ Below w.heap.size w w' := by
  unfold maxLen at hl
  by_cases hn : left - (P.length : Int) < 0
  · have HR := hid (szL_cons_lt (P.flatMap stsz) hn)
    go_enter Tryz.func24, Tryz.ntmps24
    go_wp2
    go_ret
    exact ⟨ret_int HR.out.symm, Below.refl _ _⟩
  · have HR := hid (szL_cons_ge (P.flatMap stsz) hn)
    obtain ⟨R, HE⟩ : ∃ R, Hid (R = szL (P.length :: P.flatMap stsz) left) := ⟨_, hid rfl⟩
    rw [← HE.out]
    go_enter Tryz.func24, Tryz.ntmps24
    go_wp2
    go_loopw [1, 5] (fun x i wr => ∃ (k : Nat) (y : Int), k ≤ P.length ∧ i = .int .i64 k ∧ x = .int .i64 y ∧ 0 ≤ y ∧ y ≤ 1048576 ∧ Hid (szL ((P.drop k).flatMap stsz) y = R) ∧ Below w.heap.size w wr) (fun _ i _ => P.length - (intOf i).toNat)
    case atStart => exact ⟨0, _, Nat.zero_le _, rfl, rfl, by omega, by omega, by show _ = _; rw [HE.out, HR.out, List.drop_zero], Below.refl _ _⟩
    case round =>
      obtain ⟨k, y, hk, rfl, rfl, hy0, hy1, HZ, hbel⟩ := hrel
      by_cases hlt : k < P.length
      · obtain ⟨b, o, p, cp, rfl, hb0, hc0, HP⟩ := (h.below hbel).at hlt
        obtain ⟨rs, HRS⟩ : ∃ rs, Hid (rs = P.getD k []) := ⟨_, hid rfl⟩
        rw [← HRS.out] at hc0 HP
        have hmem : rs ∈ P := by rw [HRS.out]; simp [List.getD, hlt]
        have HSZ := hid (sz_state p rs cp wr HP.out y hy0 hy1 (hs rs hmem).1 (hs rs hmem).2)
        unfold stV at HSZ
        obtain ⟨y', HY⟩ : ∃ y', Hid (y' = szL (rs.length :: rs.flatMap prsz) y) := ⟨_, hid rfl⟩
        have hbd := szL_bd (rs.length :: rs.flatMap prsz) y hy0
        rw [← HY.out] at hbd HSZ
        have HD : Hid (szL ((P.drop k).flatMap stsz) y = szL (stsz rs ++ (P.drop (k + 1)).flatMap stsz) y) := by
          show _ = _
          rw [drop_at P k [] hlt, ← HRS.out]
          rfl
        by_cases hy : y' < 0
        · have hy2 : y' = -1 := by omega
          have HN := hid (szL_append_no (stsz rs) ((P.drop (k + 1)).flatMap stsz) y hy0 (by show szL (rs.length :: rs.flatMap prsz) y < 0; rw [← HY.out]; exact hy))
          clear hbd
          subst hy2
          go_wp2_with (go_at_call 70; refine HSZ.out.mono ?_; rintro e w2 ⟨rfl, hb2⟩)
          go_ret
          refine ⟨ret_int ?_, hbel.trans (hb2.mono hbel.size)⟩
          rw [← HZ.out, HD.out, HN.out]
        · have hy2 : 0 ≤ y' := by omega
          have hy3 : y' ≤ 1048576 := by omega
          have HN := hid (szL_append_yes (stsz rs) ((P.drop (k + 1)).flatMap stsz) y hy0 (by show 0 ≤ szL (rs.length :: rs.flatMap prsz) y; rw [← HY.out]; exact hy2))
          clear hbd
          go_wp2_with (go_at_call 70; refine HSZ.out.mono ?_; rintro e w2 ⟨rfl, hb2⟩)
          go_roundw
          case rel => exact ⟨k + 1, _, by omega, by go_num, rfl, by omega, by omega, by show _ = _; rw [← HZ.out, HD.out, HN.out, HY.out]; rfl, hbel.trans (hb2.mono hbel.size)⟩
          case measure => simp [intOf]; omega
      · go_wp2
        go_ret
        refine ⟨ret_int ?_, hbel⟩
        rw [← HZ.out, List.drop_of_length_le (by omega)]
        rfl

theorem info_st : (Tryz.prog.info? 44).map (fun i => (i.zero, i.size, i.bytes)) = some (some (.agg #[.slice none 0 0]), 1, 24) := by kernel_rfl
set_option maxHeartbeats 1000000 in
theorem to_past (a : Option Addr) (P : List (List (ByteArray × ByteArray))) (c : Nat) (w : World) (h : Pst w a P) (hl : P.length ≤ 1048576) (hs : ∀ rs ∈ P, rs.length ≤ 1048576) :
    Calls Tryz.prog 28 #[.slice a P.length c] w fun e w' => ∃ g gs, e = .returned (.slice (some ⟨g, 0, none⟩) P.length P.length) ∧ w.heap.size ≤ g ∧ OwnP w' g P gs P.length ∧ Below w.heap.size w w' := by
  go_enter Tryz.func28, Tryz.ntmps28
  go_wp2_with (at_make; refine wpList_make_new rfl _ _ 47 rfl 44 _ 1 _ Tryz.underlying47 info_st P.length rfl rfl (by omega) (by omega) ?_; intro wx hrow hbx hsx; rw [made_pcs P (fun _ => 0)] at hrow)
  have hr0 : OwnP wx w.heap.size P (fun _ => 0) 0 := ⟨hrow, fun i hi => absurd hi (by omega), fun i j _ hj => absurd hj (by omega)⟩
  clear hrow
  go_loopw [4] (fun i wr => ∃ (k : Nat) (gs : Nat → Nat), k ≤ P.length ∧ i = .int .i64 k ∧ OwnP wr w.heap.size P gs k ∧ Below w.heap.size w wr) (fun i _ => P.length - (intOf i).toNat)
  case atStart => exact ⟨0, _, Nat.zero_le _, rfl, hr0, hbx⟩
  case round =>
    obtain ⟨k, gs, hk, rfl, hrow, hbel⟩ := hrel
    by_cases hlt : k < P.length
    · obtain ⟨b, o, p, cp, rfl, hb0, hc0, HP⟩ := (h.below hbel).at hlt
      obtain ⟨rs, HRS⟩ : ∃ rs, Hid (rs = P.getD k []) := ⟨_, hid rfl⟩
      rw [← HRS.out] at hc0 HP
      have hmem : rs ∈ P := by rw [HRS.out]; simp [List.getD, hlt]
      have HT := hid (to_state p rs cp wr HP.out (hs rs hmem))
      unfold stV at HT
      have HB := hid hbel
      have HR := hid hrow
      clear hrow hbel
      go_wp2_with (go_at_call 73; refine HT.out.mono ?_; rintro e w2 ⟨g1, rfl, hg1, hr1, hb2⟩; have hu0 := (HR.out.row.below hb2).cell k _ (List.getElem?_eq_getElem (by rw [pcs_length]; exact hlt)); have hf0 := (HR.out.row.below hb2).froz k (by rw [pcs_length]; exact hlt); have HR1 := hid hr1; clear hr1)
      have HPU := hid (HR.out.push (k := k) hb2 hg1 (by rw [← HRS.out]; exact HR1.out) hlt)
      rw [← HRS.out] at HPU
      go_roundw
      case rel => exact ⟨k + 1, _, by omega, by go_num, HPU.out, (HB.out.trans (hb2.mono HB.out.size)).setCell (Nat.le_refl _) _⟩
      case measure => simp [intOf]; omega
    · have hkn : k = P.length := by omega
      subst hkn
      go_wp2
      go_ret
      exact ⟨w.heap.size, gs, rfl, Nat.le_refl _, hrow, hbel⟩

set_option maxHeartbeats 1000000 in
theorem eq_pst (p q : Option Addr) (P : List (List (ByteArray × ByteArray))) (c c' : Nat) (w : World) (h : Pst w p P) (h' : Pst w q P) (hl : P.length ≤ 1048576) (hs : ∀ rs ∈ P, rs.length ≤ 1048576) :
    Calls Tryz.prog 35 #[.slice p P.length c, .slice q P.length c'] w fun e w' => e = .returned (.bool true) ∧ Below w.heap.size w w' := by
  go_enter Tryz.func35, Tryz.ntmps35
  go_wp2
  go_loopw [5] (fun i wr => ∃ k : Nat, k ≤ P.length ∧ i = .int .i64 (k : Int) ∧ Below w.heap.size w wr) (fun i _ => P.length - (intOf i).toNat)
  case atStart => exact ⟨0, Nat.zero_le _, rfl, Below.refl _ _⟩
  case round =>
    obtain ⟨k, hk, rfl, hbel⟩ := hrel
    by_cases hlt : k < P.length
    · have hlt' : (k : Int) < (P.length : Int) := by omega
      have hk0 : (0 : Int) ≤ (k : Int) := by omega
      obtain ⟨g, o, p1, c1, rfl, lg, hc, HP⟩ := (h.below hbel).at hlt
      obtain ⟨g', o', p2, c2, rfl, lg', hc', HP'⟩ := (h'.below hbel).at hlt
      obtain ⟨rs, HRS⟩ : ∃ rs, Hid (rs = P.getD k []) := ⟨_, hid rfl⟩
      rw [← HRS.out] at hc hc' HP HP'
      have hmem : rs ∈ P := by rw [HRS.out]; simp [List.getD, hlt]
      have HBL := hid hbel
      have HE := hid (eq_state p1 p2 rs c1 c2 wr.drew (HP.out.below (Below.refl _ _).drew) (HP'.out.below (Below.refl _ _).drew) (hs rs hmem))
      unfold stV at HE
      clear hbel
      go_wp2_with fail
      go_region_held3 (fun w' => w'.cell? ⟨g, o + k, none⟩ = some (.slice p1 rs.length c1) ∧ w'.cell? ⟨g', o' + k, none⟩ = some (.slice p2 rs.length c2))
        (first | assumption | exact ⟨hc, hc'⟩ | exact ⟨(hb3.cell (p := ⟨g, o + k, none⟩) lg).trans hc, (hb3.cell (p := ⟨g', o' + k, none⟩) lg').trans hc'⟩)
        (first | (go_at_call 82; refine HE.out.mono ?_; rintro e w3 ⟨rfl, hb3⟩))
      have HB3 := hid (HBL.out.trans ((((Below.refl _ _).drew).trans hb3).mono HBL.out.size))
      clear hb3
      go_wp2
      exact ⟨⟨k + 1, by omega, by go_num, HB3.out⟩, by simp [intOf]; omega⟩
    · go_wp2
      go_ret
      exact ⟨rfl, hbel⟩
end Go.Proofs.YtnmaknnnmjfhkafGreatDoor
