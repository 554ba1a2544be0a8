import Derived.Test.YtnmaknnnmjfhkafGreatDoorQxForgedWoF
import Derived.Test.YtnmaknnnmjfhkafGreatDoorMgXForged48
namespace Go.Proofs.YtnmaknnnmjfhkafGreatDoor
open Go.RowKit
set_option maxRecDepth 8000
set_option linter.unusedVariables false
set_option linter.unusedSimpArgs false

/-- A sector that reads as a page and is not among these. -/
def fgAt (n : Int) (ts : List ByteArray) (s : ByteArray) : Bool := (rpRes s n).isSome && !(ts.any fun t => decide (s = t))
/-- The first such. -/
def fgL (n : Int) (ts : List ByteArray) : List ByteArray → ByteArray
  | [] => ByteArray.empty
  | s :: r => if fgAt n ts s = true then s else fgL n ts r
def forged (x : Wo) : ByteArray := if worldOk x = true then fgL x.w x.ts x.ss else ByteArray.empty
theorem fgL_no {n : Int} {ts : List ByteArray} {s : ByteArray} {r : List ByteArray} (h : fgAt n ts s = false) : fgL n ts (s :: r) = fgL n ts r := by rw [fgL, if_neg (by rw [h]; simp)]
theorem fgL_yes {n : Int} {ts : List ByteArray} {s : ByteArray} {r : List ByteArray} (h : fgAt n ts s = true) : fgL n ts (s :: r) = s := by rw [fgL, if_pos h]
theorem any_no {ts : List ByteArray} {s : ByteArray} (h : ∀ j, j < ts.length → ¬ s = ts.getD j ByteArray.empty) : (ts.any fun t => decide (s = t)) = false := by
  refine List.any_eq_false.2 fun t ht => ?_
  obtain ⟨k, hk, rfl⟩ := List.getElem_of_mem ht
  have := h k hk
  simpa [List.getD, hk] using this
theorem any_yes {ts : List ByteArray} {s : ByteArray} (j : Nat) (hj : j < ts.length) (h : s = ts.getD j ByteArray.empty) : (ts.any fun t => decide (s = t)) = true := by
  refine List.any_eq_true.2 ⟨ts.getD j ByteArray.empty, by simp [List.getD, hj], by simpa using h⟩
theorem bytes_ne {s t : ByteArray} (h : ¬ s = t) : (s.toList == t.toList) = false := by
  rw [beq_eq_false_iff_ne]; intro hh; rw [ByteArray.toList_eq, ByteArray.toList_eq] at hh; exact h (ByteArray.ext (Array.toList_inj.1 hh))

set_option maxHeartbeats 1000000 in
theorem index_i (a : Option Addr) (ts : List ByteArray) (c : Nat) (s : ByteArray) (w : World) (h : Strs w a ts) (hl : ts.length ≤ 1048576) :
    Calls Tryz.prog 79 #[.slice a ts.length c, .string s] w fun e w' => (∃ r : Int, e = .returned (.int .i64 r) ∧ (ts.any fun t => decide (s = t)) = decide (0 ≤ r)) ∧ w' = w := by
  go_enter Tryz.func79, Tryz.ntmps79
  go_wp2
  go_loopw [5, 8] (fun _ i wr => ∃ k : Nat, k ≤ ts.length ∧ i = .int .i64 (k : Int) ∧ Hid (∀ j, j < k → ¬ s = ts.getD j ByteArray.empty) ∧ wr = w) (fun _ i _ => ts.length - (intOf i).toNat)
  case atStart => exact ⟨0, Nat.zero_le _, rfl, fun j hj => absurd hj (by omega), by first | rfl | trivial⟩
  case round =>
    obtain ⟨k, hk, rfl, HA, rfl⟩ := hrel
    by_cases hlt : k < ts.length
    · have hk1 : (k : Int) < (ts.length : Int) := by omega
      obtain ⟨b, o, t, rfl, hc, HT⟩ := h.at hlt
      by_cases hst : s = t
      · have hany := any_yes k hlt (hst.trans HT.out)
        go_wp2
        go_ret
        exact ⟨⟨(k : Int), rfl, by first | (rw [hany, decide_eq_true (by omega)]) | omega | (simp [hany]; done)⟩, by first | rfl | trivial⟩
      · have hbq := bytes_ne hst
        go_wp2
        go_roundw
        case rel => exact ⟨k + 1, by omega, by go_num, fun j hj => by
          by_cases e : j = k
          · subst e; rw [← HT.out]; exact hst
          · exact HA.out j (by omega), by first | rfl | trivial⟩
        case measure => simp [intOf]; omega
    · have hk1 : ¬ (k : Int) < (ts.length : Int) := by omega
      have hany := any_no (ts := ts) (s := s) (fun j hj => HA.out j (by omega))
      go_wp2
      go_ret
      exact ⟨⟨-1, rfl, by first | (rw [hany, decide_eq_false (by omega)]) | omega | (simp [hany]; done)⟩, by first | rfl | trivial⟩
set_option maxHeartbeats 1000000 in
theorem contains_i (a : Option Addr) (ts : List ByteArray) (c : Nat) (s : ByteArray) (w : World) (h : Strs w a ts) (hl : ts.length ≤ 1048576) :
    Calls Tryz.prog 32 #[.slice a ts.length c, .string s] w fun e w' => e = .returned (.bool (ts.any fun t => decide (s = t))) ∧ w' = w := by
  obtain ⟨B, HB⟩ : ∃ B, Hid (B = (ts.any fun t => decide (s = t))) := ⟨_, hid rfl⟩
  have HI := hid (index_i a ts c s w h hl)
  rw [← HB.out] at HI ⊢
  go_enter Tryz.func32, Tryz.ntmps32
  go_wp2_with (go_at_call 79; refine HI.out.mono ?_; rintro e w1 ⟨⟨r, rfl, hr⟩, rfl⟩)
  go_ret
  exact ⟨by rw [hr]; rfl, rfl⟩


set_option maxHeartbeats 4000000 in
theorem forged_i (x : Wo) (q : Wp) (w : World) (h : x.at w q) (hc : x.rs.length ≤ q.cs) (hm : x.le 1048576) (ty : TypeId) (v : Value) (hv : w.cell? ⟨1, 0, none⟩ = some (.iface ty v)) (h0 : w.cell? ⟨0, 0, none⟩ = some (.iface 219 (.agg #[.pointer (some ⟨2, 128, none⟩)]))) (hg : 1 < w.heap.size) :
    Calls Tryz.prog 9 #[worldW x q] w fun e w' => e = .returned (.string (forged x)) ∧ Below w.heap.size w w' := by
  have CV := hid (fun w' k => vworld_i x q w' k hc hm)
  have CR := hid (fun s wx (hb : Below w.heap.size w wx) => readpage_i s x.w wx ty v ((hb.cell (p := ⟨1, 0, none⟩) hg).trans hv) ((hb.cell (p := ⟨0, 0, none⟩) (by show 0 < _; omega)).trans h0) (by have := hb.size; omega))
  have CC := hid (fun s wx k => contains_i q.t x.ts q.ct s wx k hm.l5)
  have hE : Below w.heap.size w w := Below.refl _ _
  cases hok : worldOk x with
  | false =>
    have e : forged x = ByteArray.empty := by unfold forged; rw [if_neg (by rw [hok]; simp)]
    rw [e]
    rw [hok] at CV
    unfold worldW at CV ⊢
    clear e
    go_enter Tryz.func9, Tryz.ntmps9
    go_wp2_with fail
    obtain ⟨v1, e_v1⟩ : ∃ xw, xw = (w.alloc (.cells #[.int .i64 x.w, .slice q.a x.ss.length q.c, .slice q.a' x.ws.length q.c', .bool x.up, .int .i64 x.W, .int .i64 x.S, .int .i64 x.L, .int .i64 x.T, .int .i64 x.H, .int .i64 x.F, .int .i64 x.R, .int .i64 x.U, .int .i64 x.O, .slice q.s x.rs.length q.cs, .slice q.p x.P.length q.cp, .slice q.t x.ts.length q.ct] 49)) := ⟨_, rfl⟩
    have z_v1 : v1.heap.size = w.heap.size + 1 := by rw [e_v1]; simp
    have hb : Below w.heap.size w v1 := by rw [e_v1]; exact (Below.refl _ _).alloc (by exact Nat.le_refl _) _
    have r_bA : Row v1 (w.heap.size) [.int .i64 x.w, .slice q.a x.ss.length q.c, .slice q.a' x.ws.length q.c', .bool x.up, .int .i64 x.W, .int .i64 x.S, .int .i64 x.L, .int .i64 x.T, .int .i64 x.H, .int .i64 x.F, .int .i64 x.R, .int .i64 x.U, .int .i64 x.O, .slice q.s x.rs.length q.cs, .slice q.p x.P.length q.cp, .slice q.t x.ts.length q.ct] := by rw [e_v1]; exact (row_newW w #[.int .i64 x.w, .slice q.a x.ss.length q.c, .slice q.a' x.ws.length q.c', .bool x.up, .int .i64 x.W, .int .i64 x.S, .int .i64 x.L, .int .i64 x.T, .int .i64 x.H, .int .i64 x.F, .int .i64 x.R, .int .i64 x.U, .int .i64 x.O, .slice q.s x.rs.length q.cs, .slice q.p x.P.length q.cp, .slice q.t x.ts.length q.ct] 49 (w.heap.size) (by simp))
    have bA : Dep v1 (w.heap.size) (w.heap.size + 1) (fun W => Row W (w.heap.size) [.int .i64 x.w, .slice q.a x.ss.length q.c, .slice q.a' x.ws.length q.c', .bool x.up, .int .i64 x.W, .int .i64 x.S, .int .i64 x.L, .int .i64 x.T, .int .i64 x.H, .int .i64 x.F, .int .i64 x.R, .int .i64 x.U, .int .i64 x.O, .slice q.s x.rs.length q.cs, .slice q.p x.P.length q.cp, .slice q.t x.ts.length q.ct]) := dep_row r_bA (Nat.le_refl _) (by omega) (by omega)
    clear r_bA
    rw [← e_v1]
    clear e_v1
    have n_hE := hE.trans (hb.mono hE.size)
    clear hE
    have hE := n_hE
    clear n_hE
    clear hb
    refine (CV.out _ (h.below hE)).mono ?_
    rintro e v2 ⟨rfl, hb⟩
    have s_v2 : v1.heap.size ≤ v2.heap.size := hb.size
    have n_bA := bA.below hb
    clear bA
    have bA := n_bA
    clear n_bA
    have n_hE := hE.trans (hb.mono hE.size)
    clear hE
    have hE := n_hE
    clear n_hE
    clear hb
    go_wp2
    go_ret
    exact ⟨rfl, hE⟩
  | true =>
    have hss : 0 < x.ss.length := by
      have h2 : diskOk x.ss x.ws = true := by
        unfold worldOk at hok
        simp only [Bool.and_eq_true] at hok
        exact hok.2.1
      have := (diskOk_of h2).1
      omega
    obtain ⟨RES, HRES⟩ : ∃ RES, Hid (RES = forged x) := ⟨_, hid rfl⟩
    have HF : Hid (fgL x.w x.ts x.ss = RES) := by show _ = _; rw [HRES.out]; unfold forged; rw [if_pos hok]
    rw [← HRES.out]
    rw [hok] at CV
    have hl1 := hm.l1
    obtain ⟨qa, qc, qa', qc', qs, qcs, qp, qcp, qt, qct⟩ := q
    obtain ⟨b0, o0, s00, hae, _, _⟩ := h.h1.at hss
    simp only at hae
    subst hae
    unfold worldW at CV ⊢
    simp only at CV CC hc ⊢
    go_enter Tryz.func9, Tryz.ntmps9
    go_wp2_with fail
    obtain ⟨v1, e_v1⟩ : ∃ xw, xw = (w.alloc (.cells #[.int .i64 x.w, .slice (some ⟨b0, o0, none⟩) x.ss.length qc, .slice qa' x.ws.length qc', .bool x.up, .int .i64 x.W, .int .i64 x.S, .int .i64 x.L, .int .i64 x.T, .int .i64 x.H, .int .i64 x.F, .int .i64 x.R, .int .i64 x.U, .int .i64 x.O, .slice qs x.rs.length qcs, .slice qp x.P.length qcp, .slice qt x.ts.length qct] 49)) := ⟨_, rfl⟩
    have z_v1 : v1.heap.size = w.heap.size + 1 := by rw [e_v1]; simp
    have hb : Below w.heap.size w v1 := by rw [e_v1]; exact (Below.refl _ _).alloc (by exact Nat.le_refl _) _
    have r_bA : Row v1 (w.heap.size) [.int .i64 x.w, .slice (some ⟨b0, o0, none⟩) x.ss.length qc, .slice qa' x.ws.length qc', .bool x.up, .int .i64 x.W, .int .i64 x.S, .int .i64 x.L, .int .i64 x.T, .int .i64 x.H, .int .i64 x.F, .int .i64 x.R, .int .i64 x.U, .int .i64 x.O, .slice qs x.rs.length qcs, .slice qp x.P.length qcp, .slice qt x.ts.length qct] := by rw [e_v1]; exact (row_newW w #[.int .i64 x.w, .slice (some ⟨b0, o0, none⟩) x.ss.length qc, .slice qa' x.ws.length qc', .bool x.up, .int .i64 x.W, .int .i64 x.S, .int .i64 x.L, .int .i64 x.T, .int .i64 x.H, .int .i64 x.F, .int .i64 x.R, .int .i64 x.U, .int .i64 x.O, .slice qs x.rs.length qcs, .slice qp x.P.length qcp, .slice qt x.ts.length qct] 49 (w.heap.size) (by simp))
    have bA : Dep v1 (w.heap.size) (w.heap.size + 1) (fun W => Row W (w.heap.size) [.int .i64 x.w, .slice (some ⟨b0, o0, none⟩) x.ss.length qc, .slice qa' x.ws.length qc', .bool x.up, .int .i64 x.W, .int .i64 x.S, .int .i64 x.L, .int .i64 x.T, .int .i64 x.H, .int .i64 x.F, .int .i64 x.R, .int .i64 x.U, .int .i64 x.O, .slice qs x.rs.length qcs, .slice qp x.P.length qcp, .slice qt x.ts.length qct]) := dep_row r_bA (Nat.le_refl _) (by omega) (by omega)
    clear r_bA
    rw [← e_v1]
    clear e_v1
    have n_hE := hE.trans (hb.mono hE.size)
    clear hE
    have hE := n_hE
    clear n_hE
    clear hb
    refine (CV.out _ (h.below hE)).mono ?_
    rintro e v2 ⟨rfl, hb⟩
    have s_v2 : v1.heap.size ≤ v2.heap.size := hb.size
    have n_bA := bA.below hb
    clear bA
    have bA := n_bA
    clear n_bA
    have n_hE := hE.trans (hb.mono hE.size)
    clear hE
    have hE := n_hE
    clear n_hE
    clear hb
    have q_bA_0 := bA.now.cell 0 _ rfl
    have q_bA_1 := bA.now.cell 1 _ rfl
    have q_bA_2 := bA.now.cell 2 _ rfl
    have q_bA_3 := bA.now.cell 3 _ rfl
    have q_bA_4 := bA.now.cell 4 _ rfl
    have q_bA_5 := bA.now.cell 5 _ rfl
    have q_bA_6 := bA.now.cell 6 _ rfl
    have q_bA_7 := bA.now.cell 7 _ rfl
    have q_bA_8 := bA.now.cell 8 _ rfl
    have q_bA_9 := bA.now.cell 9 _ rfl
    have q_bA_10 := bA.now.cell 10 _ rfl
    have q_bA_11 := bA.now.cell 11 _ rfl
    have q_bA_12 := bA.now.cell 12 _ rfl
    have q_bA_13 := bA.now.cell 13 _ rfl
    have q_bA_14 := bA.now.cell 14 _ rfl
    have q_bA_15 := bA.now.cell 15 _ rfl
    have q_bA_l := bA.now.lt
    go_wp2
    clear q_bA_0 q_bA_1 q_bA_2 q_bA_3 q_bA_4 q_bA_5 q_bA_6 q_bA_7 q_bA_8 q_bA_9 q_bA_10 q_bA_11 q_bA_12 q_bA_13 q_bA_14 q_bA_15 q_bA_l
    have HBA := hid bA
    have HE := hid hE
    clear bA hE HRES
    go_loopw [4, 5, 6, 14] (fun _ _ _ i wr => ∃ k : Nat, k ≤ x.ss.length ∧ i = .int .i64 (k : Int) ∧ Hid (fgL x.w x.ts (x.ss.drop k) = RES) ∧ Hid (Below v2.heap.size v2 wr)) (fun _ _ _ i _ => x.ss.length - (intOf i).toNat)
    case atStart => exact ⟨0, Nat.zero_le _, rfl, by show _ = _; rw [List.drop_zero]; exact HF.out, Below.refl _ _⟩
    case round =>
      obtain ⟨k, hk, rfl, HK, HBW⟩ := hrel
      have hEw := HE.out.trans (HBW.out.mono HE.out.size)
      by_cases hlt : k < x.ss.length
      · have hk1 : (k : Int) < (x.ss.length : Int) := by omega
        obtain ⟨b, o, s, he, hcs, HS⟩ := (h.h1.below hEw).at hlt
        simp only at he
        cases he
        have HD : Hid (x.ss.drop k = s :: x.ss.drop (k + 1)) := by show _ = _; rw [drop_at x.ss k ByteArray.empty hlt, ← HS.out]
        have q0 := (HBA.out.below HBW.out).now.cell 0 _ rfl
        have hl0 := (HBA.out.below HBW.out).now.lt
        have HEW := hid hEw
        clear hEw
        have CR1 := hid (CR.out s wr HEW.out)
        cases hR : rpRes s x.w with
        | none =>
          have hf : fgAt x.w x.ts s = false := by unfold fgAt; rw [hR]; rfl
          rw [hR] at CR1
          unfold rpV pageV at CR1
          go_wp2_with (go_at_call 31; refine CR1.out.mono ?_; rintro e w2 ⟨rfl, hb2⟩; have HB2 := hid hb2; clear hb2)
          go_roundw
          case rel => exact ⟨k + 1, by omega, by go_num, by show _ = _; rw [← HK.out, HD.out, fgL_no hf], HBW.out.trans ((HB2.out.mono HBW.out.size).trans ((below_new w2 _).mono (Nat.le_trans HBW.out.size HB2.out.size)))⟩
          case measure => simp [intOf]; omega
        | some pg =>
          rw [hR] at CR1
          obtain ⟨pk, pl, pm, pp⟩ := pg
          unfold rpV pageV at CR1
          simp only at CR1
          obtain ⟨B, hB⟩ : ∃ B, (x.ts.any fun t => decide (s = t)) = B := ⟨_, rfl⟩
          have CC1 := hid (fun wx k => CC.out s wx k)
          rw [hB] at CC1
          cases B with
          | true =>
            have hf : fgAt x.w x.ts s = false := by unfold fgAt; rw [hR, hB]; rfl
            go_wp2_with (first | (go_at_call 31; refine CR1.out.mono ?_; rintro e w2 ⟨rfl, hb2⟩; have q15 := ((HBA.out.below HBW.out).below hb2).now.cell 15 _ rfl; have hl2 := ((HBA.out.below HBW.out).below hb2).now.lt; have HB2 := hid hb2; clear hb2) | (go_at_call 32; refine (CC1.out _ (h.h5.below (HEW.out.trans ((HB2.out.mono HEW.out.size).trans ((below_new w2 _).mono (Nat.le_trans HEW.out.size HB2.out.size)))))).mono ?_; rintro e wz ⟨rfl, hwz⟩; rw [hwz]; clear hwz wz))
            go_roundw
            case rel => exact ⟨k + 1, by omega, by go_num, by show _ = _; rw [← HK.out, HD.out, fgL_no hf], HBW.out.trans ((HB2.out.mono HBW.out.size).trans ((below_new w2 _).mono (Nat.le_trans HBW.out.size HB2.out.size)))⟩
            case measure => simp [intOf]; omega
          | false =>
            have hf : fgAt x.w x.ts s = true := by unfold fgAt; rw [hR, hB]; rfl
            have hres : RES = s := by rw [← HK.out, HD.out, fgL_yes hf]
            go_wp2_with (first | (go_at_call 31; refine CR1.out.mono ?_; rintro e w2 ⟨rfl, hb2⟩; have q15 := ((HBA.out.below HBW.out).below hb2).now.cell 15 _ rfl; have hl2 := ((HBA.out.below HBW.out).below hb2).now.lt; have HB2 := hid hb2; clear hb2) | (go_at_call 32; refine (CC1.out _ (h.h5.below (HEW.out.trans ((HB2.out.mono HEW.out.size).trans ((below_new w2 _).mono (Nat.le_trans HEW.out.size HB2.out.size)))))).mono ?_; rintro e wz ⟨rfl, hwz⟩; rw [hwz]; clear hwz wz))
            go_ret
            exact ⟨by first | rfl | (rw [hres]; rfl), HEW.out.trans ((HB2.out.mono HEW.out.size).trans ((below_new w2 _).mono (Nat.le_trans HEW.out.size HB2.out.size)))⟩
      · have hk1 : ¬ (k : Int) < (x.ss.length : Int) := by omega
        have hres : RES = ByteArray.empty := by rw [← HK.out, List.drop_of_length_le (by omega)]; rfl
        go_wp2
        go_ret
        exact ⟨by first | rfl | (rw [hres]; rfl), hEw⟩

set_option maxHeartbeats 4000000 in
theorem forged_s (x : Wo) (q : Wp) (w : World) (h : x.at w q) (hm : x.le 1048576) :
    Calls Tryz.prog 7 #[worldW x q] w fun e w' => e = .returned (.string (forged x)) ∧ Below w.heap.size w w' := by
  have CV := hid (fun w' k => vworld_s x q w' k hm)
  have CR := hid (fun s wx (hs : s.size ≤ 1048576) => readpage_s_any s x.w wx hs)
  have hE : Below w.heap.size w w := Below.refl _ _
  have hl1 := hm.l1
  have hl5 := hm.l5
  unfold worldW at CV ⊢
  cases hok : worldOk x with
  | false =>
    have e : forged x = ByteArray.empty := by unfold forged; rw [if_neg (by rw [hok]; simp)]
    rw [e]
    rw [hok] at CV
    clear e
    go_enter Tryz.func7, Tryz.ntmps7
    go_wp2_with fail
    obtain ⟨v1, e_v1⟩ : ∃ xw, xw = (w.alloc (.cells #[.int .i64 x.w, .slice q.a x.ss.length q.c, .slice q.a' x.ws.length q.c', .bool x.up, .int .i64 x.W, .int .i64 x.S, .int .i64 x.L, .int .i64 x.T, .int .i64 x.H, .int .i64 x.F, .int .i64 x.R, .int .i64 x.U, .int .i64 x.O, .slice q.s x.rs.length q.cs, .slice q.p x.P.length q.cp, .slice q.t x.ts.length q.ct] 49)) := ⟨_, rfl⟩
    have z_v1 : v1.heap.size = w.heap.size + 1 := by rw [e_v1]; simp
    have hb : Below w.heap.size w v1 := by rw [e_v1]; exact (Below.refl _ _).alloc (by exact Nat.le_refl _) _
    have r_bA : Row v1 (w.heap.size) [.int .i64 x.w, .slice q.a x.ss.length q.c, .slice q.a' x.ws.length q.c', .bool x.up, .int .i64 x.W, .int .i64 x.S, .int .i64 x.L, .int .i64 x.T, .int .i64 x.H, .int .i64 x.F, .int .i64 x.R, .int .i64 x.U, .int .i64 x.O, .slice q.s x.rs.length q.cs, .slice q.p x.P.length q.cp, .slice q.t x.ts.length q.ct] := by rw [e_v1]; exact (row_newW w #[.int .i64 x.w, .slice q.a x.ss.length q.c, .slice q.a' x.ws.length q.c', .bool x.up, .int .i64 x.W, .int .i64 x.S, .int .i64 x.L, .int .i64 x.T, .int .i64 x.H, .int .i64 x.F, .int .i64 x.R, .int .i64 x.U, .int .i64 x.O, .slice q.s x.rs.length q.cs, .slice q.p x.P.length q.cp, .slice q.t x.ts.length q.ct] 49 (w.heap.size) (by simp))
    have bA : Dep v1 (w.heap.size) (w.heap.size + 1) (fun W => Row W (w.heap.size) [.int .i64 x.w, .slice q.a x.ss.length q.c, .slice q.a' x.ws.length q.c', .bool x.up, .int .i64 x.W, .int .i64 x.S, .int .i64 x.L, .int .i64 x.T, .int .i64 x.H, .int .i64 x.F, .int .i64 x.R, .int .i64 x.U, .int .i64 x.O, .slice q.s x.rs.length q.cs, .slice q.p x.P.length q.cp, .slice q.t x.ts.length q.ct]) := dep_row r_bA (Nat.le_refl _) (by omega) (by omega)
    clear r_bA
    rw [← e_v1]
    clear e_v1
    have n_hE := hE.trans (hb.mono hE.size)
    clear hE
    have hE := n_hE
    clear n_hE
    clear hb
    refine (CV.out _ (h.below hE)).mono ?_
    rintro e v2 ⟨rfl, hb⟩
    have s_v2 : v1.heap.size ≤ v2.heap.size := hb.size
    have n_bA := bA.below hb
    clear bA
    have bA := n_bA
    clear n_bA
    have n_hE := hE.trans (hb.mono hE.size)
    clear hE
    have hE := n_hE
    clear n_hE
    clear hb
    go_wp2
    go_ret
    exact ⟨rfl, hE⟩
  | true =>
    obtain ⟨RES, HRES⟩ : ∃ RES, Hid (RES = forged x) := ⟨_, hid rfl⟩
    have HF : Hid (fgL x.w x.ts x.ss = RES) := by show _ = _; rw [HRES.out]; unfold forged; rw [if_pos hok]
    rw [← HRES.out]
    rw [hok] at CV
    go_enter Tryz.func7, Tryz.ntmps7
    go_wp2_with fail
    obtain ⟨v1, e_v1⟩ : ∃ xw, xw = (w.alloc (.cells #[.int .i64 x.w, .slice q.a x.ss.length q.c, .slice q.a' x.ws.length q.c', .bool x.up, .int .i64 x.W, .int .i64 x.S, .int .i64 x.L, .int .i64 x.T, .int .i64 x.H, .int .i64 x.F, .int .i64 x.R, .int .i64 x.U, .int .i64 x.O, .slice q.s x.rs.length q.cs, .slice q.p x.P.length q.cp, .slice q.t x.ts.length q.ct] 49)) := ⟨_, rfl⟩
    have z_v1 : v1.heap.size = w.heap.size + 1 := by rw [e_v1]; simp
    have hb : Below w.heap.size w v1 := by rw [e_v1]; exact (Below.refl _ _).alloc (by exact Nat.le_refl _) _
    have r_bA : Row v1 (w.heap.size) [.int .i64 x.w, .slice q.a x.ss.length q.c, .slice q.a' x.ws.length q.c', .bool x.up, .int .i64 x.W, .int .i64 x.S, .int .i64 x.L, .int .i64 x.T, .int .i64 x.H, .int .i64 x.F, .int .i64 x.R, .int .i64 x.U, .int .i64 x.O, .slice q.s x.rs.length q.cs, .slice q.p x.P.length q.cp, .slice q.t x.ts.length q.ct] := by rw [e_v1]; exact (row_newW w #[.int .i64 x.w, .slice q.a x.ss.length q.c, .slice q.a' x.ws.length q.c', .bool x.up, .int .i64 x.W, .int .i64 x.S, .int .i64 x.L, .int .i64 x.T, .int .i64 x.H, .int .i64 x.F, .int .i64 x.R, .int .i64 x.U, .int .i64 x.O, .slice q.s x.rs.length q.cs, .slice q.p x.P.length q.cp, .slice q.t x.ts.length q.ct] 49 (w.heap.size) (by simp))
    have bA : Dep v1 (w.heap.size) (w.heap.size + 1) (fun W => Row W (w.heap.size) [.int .i64 x.w, .slice q.a x.ss.length q.c, .slice q.a' x.ws.length q.c', .bool x.up, .int .i64 x.W, .int .i64 x.S, .int .i64 x.L, .int .i64 x.T, .int .i64 x.H, .int .i64 x.F, .int .i64 x.R, .int .i64 x.U, .int .i64 x.O, .slice q.s x.rs.length q.cs, .slice q.p x.P.length q.cp, .slice q.t x.ts.length q.ct]) := dep_row r_bA (Nat.le_refl _) (by omega) (by omega)
    clear r_bA
    rw [← e_v1]
    clear e_v1
    have n_hE := hE.trans (hb.mono hE.size)
    clear hE
    have hE := n_hE
    clear n_hE
    clear hb
    refine (CV.out _ (h.below hE)).mono ?_
    rintro e v2 ⟨rfl, hb⟩
    have s_v2 : v1.heap.size ≤ v2.heap.size := hb.size
    have n_bA := bA.below hb
    clear bA
    have bA := n_bA
    clear n_bA
    have n_hE := hE.trans (hb.mono hE.size)
    clear hE
    have hE := n_hE
    clear n_hE
    clear hb
    have q_bA_0 := bA.now.cell 0 _ rfl
    have q_bA_1 := bA.now.cell 1 _ rfl
    have q_bA_2 := bA.now.cell 2 _ rfl
    have q_bA_3 := bA.now.cell 3 _ rfl
    have q_bA_4 := bA.now.cell 4 _ rfl
    have q_bA_5 := bA.now.cell 5 _ rfl
    have q_bA_6 := bA.now.cell 6 _ rfl
    have q_bA_7 := bA.now.cell 7 _ rfl
    have q_bA_8 := bA.now.cell 8 _ rfl
    have q_bA_9 := bA.now.cell 9 _ rfl
    have q_bA_10 := bA.now.cell 10 _ rfl
    have q_bA_11 := bA.now.cell 11 _ rfl
    have q_bA_12 := bA.now.cell 12 _ rfl
    have q_bA_13 := bA.now.cell 13 _ rfl
    have q_bA_14 := bA.now.cell 14 _ rfl
    have q_bA_15 := bA.now.cell 15 _ rfl
    have q_bA_l := bA.now.lt
    go_wp2
    clear q_bA_0 q_bA_1 q_bA_2 q_bA_3 q_bA_4 q_bA_5 q_bA_6 q_bA_7 q_bA_8 q_bA_9 q_bA_10 q_bA_11 q_bA_12 q_bA_13 q_bA_14 q_bA_15 q_bA_l
    have HBA := hid bA
    have HE := hid hE
    clear bA hE HRES
    go_loopw [3, 4, 5, 6, 7] (fun i _ _ _ _ wr => ∃ k : Nat, k ≤ x.ss.length ∧ i = .int .i64 (k : Int) ∧ Hid (fgL x.w x.ts (x.ss.drop k) = RES) ∧ Hid (Below v2.heap.size v2 wr)) (fun i _ _ _ _ _ => x.ss.length - (intOf i).toNat)
    case atStart => exact ⟨0, Nat.zero_le _, rfl, by show _ = _; rw [List.drop_zero]; exact HF.out, Below.refl _ _⟩
    case round =>
      obtain ⟨k, hk, rfl, HK, HBW⟩ := hrel
      have hEw := HE.out.trans (HBW.out.mono HE.out.size)
      have q1 := (HBA.out.below HBW.out).now.cell 1 _ rfl
      have hl0 := (HBA.out.below HBW.out).now.lt
      by_cases hlt : k < x.ss.length
      · have hk1 : (k : Int) < (x.ss.length : Int) := by omega
        obtain ⟨b, o, s, he, hcs, HS⟩ := (h.h1.below hEw).at hlt
        rw [he] at q1
        clear he
        have hs1 := hm.s1 s (by rw [HS.out]; simp [List.getD, hlt])
        have HD : Hid (x.ss.drop k = s :: x.ss.drop (k + 1)) := by show _ = _; rw [drop_at x.ss k ByteArray.empty hlt, ← HS.out]
        have q0 := (HBA.out.below HBW.out).now.cell 0 _ rfl
        have HEW := hid hEw
        clear hEw
        have CR1 := hid (CR.out s wr hs1)
        obtain ⟨R, hR⟩ : ∃ R, rpRes s x.w = R := ⟨_, rfl⟩
        rw [hR] at CR1
        obtain ⟨pk, pl, pm, pp, B, hV, hBR⟩ : ∃ pk pl pm pp B, rpV R = .tuple #[pageV pk pl pm pp, .bool B] ∧ B = R.isSome := by
          cases R with
          | none => exact ⟨_, _, _, _, _, rfl, rfl⟩
          | some y => obtain ⟨k, l, m, p⟩ := y; exact ⟨_, _, _, _, _, rfl, rfl⟩
        rw [hV] at CR1
        unfold pageV at CR1
        go_wp2_with (go_at_call 21; refine CR1.out.mono ?_; rintro e w2 ⟨rfl, hb2⟩; have HB2 := hid hb2; clear hb2)
        obtain ⟨w3, e_w3⟩ : ∃ xw, xw = w2.alloc (.cells #[.int .i64 pk, .int .i64 pl, .int .i64 pm, .string pp] 69) := ⟨_, rfl⟩
        rw [← e_w3]
        have HB3 : Hid (Below wr.heap.size wr w3) := by rw [e_w3]; exact HB2.out.trans ((below_new w2 _).mono HB2.out.size)
        clear e_w3 HB2 q0 q1 hcs
        have q15 := ((HBA.out.below HBW.out).below HB3.out).now.cell 15 _ rfl
        have q1 := ((HBA.out.below HBW.out).below HB3.out).now.cell 1 _ rfl
        have hl3 := ((HBA.out.below HBW.out).below HB3.out).now.lt
        have hE3 := HEW.out.trans (HB3.out.mono HEW.out.size)
        go_loopw [6, 7] (fun ok j w5 => ∃ (n : Nat) (C : Bool), n ≤ x.ts.length ∧ j = .int .i64 (n : Int) ∧ ok = .bool C ∧ Hid ((C = true ∧ R.isSome = true ∧ ∀ i, i < n → ¬ s = x.ts.getD i ByteArray.empty) ∨ (C = false ∧ fgAt x.w x.ts s = false)) ∧ Hid (w5 = w3)) (fun _ j _ => x.ts.length - (intOf j).toNat)
        case atStart =>
          refine ⟨0, B, Nat.zero_le _, rfl, by first | rfl | (rw [hBR]), ?_, by first | rfl | trivial⟩
          cases B with
          | true => exact .inl ⟨rfl, hBR.symm, fun i hi => absurd hi (by omega)⟩
          | false => exact .inr ⟨rfl, by unfold fgAt; rw [hR, ← hBR]; rfl⟩
        case round =>
          obtain ⟨n, C, hn, rfl, rfl, HC, HW5⟩ := hrel
          have hw5 := HW5.out
          subst hw5
          by_cases hgo : n < x.ts.length ∧ C = true
          · obtain ⟨hn1, rfl⟩ := hgo
            have hn2 : (n : Int) < (x.ts.length : Int) := by omega
            obtain ⟨bt, ot, t, hte, hct, HT⟩ := (h.h5.below hE3).at hn1
            rw [hte] at q15
            clear hte
            rcases HC.out with ⟨_, hC1, hC2⟩ | ⟨hC0, _⟩
            rotate_left
            · cases hC0
            by_cases hst : t = s
            · have hfa : fgAt x.w x.ts s = false := by unfold fgAt; rw [any_yes n hn1 (by rw [← HT.out]; exact hst.symm)]; simp
              have HFA := hid hfa
              clear hfa
              go_wp2
              go_roundw
              case rel => exact ⟨n + 1, false, by omega, by go_num, by first | rfl | simp [hst], .inr ⟨rfl, HFA.out⟩, by first | rfl | trivial⟩
              case measure => simp [intOf]; omega
            · have hbq := bytes_ne hst
              have HCC : Hid (∀ i, i < n + 1 → ¬ s = x.ts.getD i ByteArray.empty) := fun i hi => by
                by_cases e : i = n
                · subst e; rw [← HT.out]; exact fun e => hst e.symm
                · exact hC2 i (by omega)
              go_wp2
              go_roundw
              case rel => exact ⟨n + 1, true, by omega, by go_num, by first | rfl | simp [hst], .inl ⟨rfl, hC1, HCC.out⟩, by first | rfl | trivial⟩
              case measure => simp [intOf]; omega
          · have hfc : Hid (fgAt x.w x.ts s = C) := by
              rcases HC.out with ⟨rfl, h1, h2⟩ | ⟨rfl, h1⟩
              · have hnn : ¬ n < x.ts.length := fun hh => hgo ⟨hh, rfl⟩
                show _ = _
                unfold fgAt
                rw [hR, h1, any_no (fun j hj => h2 j (by omega))]
                rfl
              · exact h1
            clear HC
            have key : ∀ (P : Prop), (¬ n < x.ts.length → P) → (n < x.ts.length → C = false → P) → P := fun P a1 a2 => by
              by_cases h1 : n < x.ts.length
              · cases C with
                | true => exact absurd ⟨h1, rfl⟩ hgo
                | false => exact a2 h1 rfl
              · exact a1 h1
            refine key _ (fun h1 => ?_) (fun h1 h2 => ?_)
            · have hn2 : ¬ (n : Int) < (x.ts.length : Int) := by omega
              clear hgo key
              cases C with
              | true =>
                have hres : RES = s := by rw [← HK.out, HD.out, fgL_yes hfc.out]
                go_wp2
                go_ret
                exact ⟨by first | rfl | (rw [hres]; rfl), hE3⟩
              | false =>
                go_wp2
                go_roundw
                case rel => exact ⟨k + 1, by omega, by go_num, by show _ = _; rw [← HK.out, HD.out, fgL_no hfc.out], HBW.out.trans (HB3.out.mono HBW.out.size)⟩
                case measure => simp [intOf]; omega
            · have hn2 : (n : Int) < (x.ts.length : Int) := by omega
              subst h2
              clear hgo key
              go_wp2
              go_roundw
              case rel => exact ⟨k + 1, by omega, by go_num, by show _ = _; rw [← HK.out, HD.out, fgL_no hfc.out], HBW.out.trans (HB3.out.mono HBW.out.size)⟩
              case measure => simp [intOf]; omega
      · have hk1 : ¬ (k : Int) < (x.ss.length : Int) := by omega
        have hres : RES = ByteArray.empty := by rw [← HK.out, List.drop_of_length_le (by omega)]; rfl
        go_wp2
        go_ret
        exact ⟨by first | rfl | (rw [hres]; rfl), hEw⟩
end Go.Proofs.YtnmaknnnmjfhkafGreatDoor
