import Derived.Test.YtnmaknnnmjfhkaeRows
import Derived.Test.YtnmaknnnmjfhkaeQxValidWorldWoF
import Derived.Test.YtnmaknnnmjfhkaeQxValidWorldWoT
import Derived.WalkKit
import Derived.ProofKit
import Derived.OpenShut
import Derived.ShutString
import Derived.ChangeOld
import Derived.ChangeSlices
import Derived.Below
import Derived.Lib.SmallJoins
namespace Go.Proofs.Ytnmaknnnmjfhkae.fnExactValidWorld
open Go.ChangeShapes Go.WideShapes Go.ChangeAt Go.RowKit Go.Joins
open Go.ChangeMaps (open_string shut_string)
set_option linter.unusedVariables false
set_option linter.unusedSimpArgs false
set_option maxRecDepth 8000

theorem own : ownKnob Try.prog.godebug = none := by kernel_rfl
theorem laidOut : laidOutB Try.prog = true := by kernel_rfl
theorem dep_ownw {x : Wo} {w : World} {base g1 g2 g3 g4 g5 : Nat} {gs : Nat → Nat} (h : OwnW x w base g1 g2 g3 g4 g5 gs) : Dep w base w.heap.size (fun W => OwnW x W base g1 g2 g3 g4 g5 gs) :=
  ⟨h, Nat.le_refl _, fun w' k1 k2 => by
    have b1 := h.b1
    have b2 := h.b2
    have o13 := h.o13
    have o34 := h.o34
    have o45 := h.o45
    have row : ∀ {g : Nat} {cs : List Value}, Row w g cs → base ≤ g → Row w' g cs := fun hr hb => row_same hr (k1 _ hb hr.lt) (Nat.lt_of_lt_of_le hr.lt k2)
    exact ⟨row h.r1 b1, row h.r2 b2, row h.r3 (by omega), ⟨row h.r4.row (by omega), fun i hi => ⟨row (h.r4.st i hi).1 (by have := (h.r4.st i hi).2; omega), (h.r4.st i hi).2⟩, h.r4.asc⟩, row h.r5 (by omega), h.b1, h.b2, h.n12, h.o13, h.o23, h.o34, h.o45, h.ogs⟩⟩
set_option maxHeartbeats 16000000 in
theorem walk (x : Wo) (q : Wp) (w : World) (h : x.at w q) (hx : x.le maxLen) :
    Calls Try.prog 5 #[worldW x q] w fun e w' => e = .returned (.bool true) ∧ Below w.heap.size w w' := by
  have HSZ := hid (fun w' k => sz_world x q w' k hx)
  obtain ⟨R, HR⟩ : ∃ R, Hid (R = szL (wsz x) 1048576) := ⟨_, hid rfl⟩
  rw [← HR.out] at HSZ
  unfold worldW at HSZ ⊢
  go_enter Try.func5, Try.ntmps5
  go_wp2_with fail
  have hE : Below w.heap.size w w := Below.refl _ _
  obtain ⟨v1, e_v1⟩ : ∃ xw, xw = (w.alloc (.cells #[.int .i64 x.w, .slice q.a x.ss.length q.c, .slice q.a' x.ws.length q.c', .bool x.up, .int .i64 x.W, .int .i64 x.S, .int .i64 x.L, .int .i64 x.T, .int .i64 x.H, .int .i64 x.F, .int .i64 x.R, .int .i64 x.U, .int .i64 x.O, .slice q.s x.rs.length q.cs, .slice q.p x.P.length q.cp, .slice q.t x.ts.length q.ct] 53)) := ⟨_, rfl⟩
  have z_v1 : v1.heap.size = w.heap.size + 1 := by rw [e_v1]; simp
  have hb : Below w.heap.size w v1 := by rw [e_v1]; exact (Below.refl _ _).alloc (by exact Nat.le_refl _) _
  have r_bA : Row v1 (w.heap.size) [.int .i64 x.w, .slice q.a x.ss.length q.c, .slice q.a' x.ws.length q.c', .bool x.up, .int .i64 x.W, .int .i64 x.S, .int .i64 x.L, .int .i64 x.T, .int .i64 x.H, .int .i64 x.F, .int .i64 x.R, .int .i64 x.U, .int .i64 x.O, .slice q.s x.rs.length q.cs, .slice q.p x.P.length q.cp, .slice q.t x.ts.length q.ct] := by rw [e_v1]; exact (row_newW w #[.int .i64 x.w, .slice q.a x.ss.length q.c, .slice q.a' x.ws.length q.c', .bool x.up, .int .i64 x.W, .int .i64 x.S, .int .i64 x.L, .int .i64 x.T, .int .i64 x.H, .int .i64 x.F, .int .i64 x.R, .int .i64 x.U, .int .i64 x.O, .slice q.s x.rs.length q.cs, .slice q.p x.P.length q.cp, .slice q.t x.ts.length q.ct] 53 (w.heap.size) (by simp))
  have bA : Dep v1 (w.heap.size) (w.heap.size + 1) (fun W => Row W (w.heap.size) [.int .i64 x.w, .slice q.a x.ss.length q.c, .slice q.a' x.ws.length q.c', .bool x.up, .int .i64 x.W, .int .i64 x.S, .int .i64 x.L, .int .i64 x.T, .int .i64 x.H, .int .i64 x.F, .int .i64 x.R, .int .i64 x.U, .int .i64 x.O, .slice q.s x.rs.length q.cs, .slice q.p x.P.length q.cp, .slice q.t x.ts.length q.ct]) := dep_row r_bA (Nat.le_refl _) (by omega) (by omega)
  clear r_bA
  rw [← e_v1]
  clear e_v1
  have n_hE := hE.trans (hb.mono hE.size)
  clear hE
  have hE := n_hE
  clear n_hE
  clear hb
  refine (HSZ.out _ (h.below hE)).mono ?_
  rintro e v2 ⟨rfl, hb⟩
  have s_v2 : v1.heap.size ≤ v2.heap.size := hb.size
  have n_bA := bA.below hb
  clear bA
  have bA := n_bA
  clear n_bA
  have n_hE := hE.trans (hb.mono hE.size)
  clear hE
  have hE := n_hE
  clear n_hE
  clear hb
  have q_bA_0 := bA.now.cell 0 _ rfl
  have q_bA_1 := bA.now.cell 1 _ rfl
  have q_bA_2 := bA.now.cell 2 _ rfl
  have q_bA_3 := bA.now.cell 3 _ rfl
  have q_bA_4 := bA.now.cell 4 _ rfl
  have q_bA_5 := bA.now.cell 5 _ rfl
  have q_bA_6 := bA.now.cell 6 _ rfl
  have q_bA_7 := bA.now.cell 7 _ rfl
  have q_bA_8 := bA.now.cell 8 _ rfl
  have q_bA_9 := bA.now.cell 9 _ rfl
  have q_bA_10 := bA.now.cell 10 _ rfl
  have q_bA_11 := bA.now.cell 11 _ rfl
  have q_bA_12 := bA.now.cell 12 _ rfl
  have q_bA_13 := bA.now.cell 13 _ rfl
  have q_bA_14 := bA.now.cell 14 _ rfl
  have q_bA_15 := bA.now.cell 15 _ rfl
  have q_bA_l := bA.now.lt
  by_cases hR : R < 0
  · go_wp2
    go_ret
    exact ⟨rfl, hE⟩
  have hm : x.le 1048576 := wsz_le x (by rw [← HR.out]; omega)
  have hR0 : 0 ≤ R := by omega
  have HTO := hid (fun w' k => to_world x q w' k hm)
  have HEQ := hid (fun q1 q2 w' k1 k2 => eq_world x q1 q2 w' k1 k2 hm)
  have HVS := hid (fun q1 w' k => vworld_s x q1 w' k hm)
  have HVI := hid (fun q1 w' k (hc : x.rs.length ≤ q1.cs) => vworld_i x q1 w' k hc hm)
  obtain ⟨B, HB⟩ : ∃ B, Hid (B = worldOk x) := ⟨_, hid rfl⟩
  rw [← HB.out] at HVS HVI
  unfold worldW at HTO HEQ HVS HVI
  go_wp2_with fail
  clear q_bA_0 q_bA_1 q_bA_2 q_bA_3 q_bA_4 q_bA_5 q_bA_6 q_bA_7 q_bA_8 q_bA_9 q_bA_10 q_bA_11 q_bA_12 q_bA_13 q_bA_14 q_bA_15 q_bA_l
  as_aux_lemma =>
    refine (HTO.out _ (h.below hE)).mono ?_
    rintro e v3 ⟨g1_t1, g2_t1, g3_t1, g4_t1, g5_t1, gs_t1, rfl, ow_t1, hb⟩
    have s_v3 : v2.heap.size ≤ v3.heap.size := hb.size
    have n_bA := bA.below hb
    clear bA
    have bA := n_bA
    clear n_bA
    have n_hE := hE.trans (hb.mono hE.size)
    clear hE
    have hE := n_hE
    clear n_hE
    have t1 : Dep v3 v2.heap.size v3.heap.size (fun W => OwnW x W v2.heap.size g1_t1 g2_t1 g3_t1 g4_t1 g5_t1 gs_t1) := dep_ownw ow_t1
    clear ow_t1
    clear hb
    as_aux_lemma =>
      go_wp2_with fail
      refine (HVS.out _ _ t1.now.at).mono ?_
      rintro e v4 ⟨rfl, hb⟩
      have s_v4 : v3.heap.size ≤ v4.heap.size := hb.size
      have n_bA := bA.below hb
      clear bA
      have bA := n_bA
      clear n_bA
      have n_t1 := t1.below hb
      clear t1
      have t1 := n_t1
      clear n_t1
      have n_hE := hE.trans (hb.mono hE.size)
      clear hE
      have hE := n_hE
      clear n_hE
      clear hb
      clear t1
      as_aux_lemma =>
        have q_bA_0 := bA.now.cell 0 _ rfl
        have q_bA_1 := bA.now.cell 1 _ rfl
        have q_bA_2 := bA.now.cell 2 _ rfl
        have q_bA_3 := bA.now.cell 3 _ rfl
        have q_bA_4 := bA.now.cell 4 _ rfl
        have q_bA_5 := bA.now.cell 5 _ rfl
        have q_bA_6 := bA.now.cell 6 _ rfl
        have q_bA_7 := bA.now.cell 7 _ rfl
        have q_bA_8 := bA.now.cell 8 _ rfl
        have q_bA_9 := bA.now.cell 9 _ rfl
        have q_bA_10 := bA.now.cell 10 _ rfl
        have q_bA_11 := bA.now.cell 11 _ rfl
        have q_bA_12 := bA.now.cell 12 _ rfl
        have q_bA_13 := bA.now.cell 13 _ rfl
        have q_bA_14 := bA.now.cell 14 _ rfl
        have q_bA_15 := bA.now.cell 15 _ rfl
        have q_bA_l := bA.now.lt
        go_wp2_with fail
        clear q_bA_0 q_bA_1 q_bA_2 q_bA_3 q_bA_4 q_bA_5 q_bA_6 q_bA_7 q_bA_8 q_bA_9 q_bA_10 q_bA_11 q_bA_12 q_bA_13 q_bA_14 q_bA_15 q_bA_l
        refine (HTO.out _ (h.below hE)).mono ?_
        rintro e v5 ⟨g1_xd, g2_xd, g3_xd, g4_xd, g5_xd, gs_xd, rfl, ow_xd, hb⟩
        have s_v5 : v4.heap.size ≤ v5.heap.size := hb.size
        have n_bA := bA.below hb
        clear bA
        have bA := n_bA
        clear n_bA
        have n_hE := hE.trans (hb.mono hE.size)
        clear hE
        have hE := n_hE
        clear n_hE
        have xd : Dep v5 v4.heap.size v5.heap.size (fun W => OwnW x W v4.heap.size g1_xd g2_xd g3_xd g4_xd g5_xd gs_xd) := dep_ownw ow_xd
        clear ow_xd
        clear hb
        as_aux_lemma =>
          go_wp2_with fail
          obtain ⟨v6, e_v6⟩ : ∃ xw, xw = v5.alloc (.cells #[.int .i64 x.w, .slice (some ⟨g1_xd, 0, none⟩) x.ss.length x.ss.length, .slice (some ⟨g2_xd, 0, none⟩) x.ws.length x.ws.length, .bool x.up, .int .i64 x.W, .int .i64 x.S, .int .i64 x.L, .int .i64 x.T, .int .i64 x.H, .int .i64 x.F, .int .i64 x.R, .int .i64 x.U, .int .i64 x.O, .slice (some ⟨g3_xd, 0, none⟩) x.rs.length x.rs.length, .slice (some ⟨g4_xd, 0, none⟩) x.P.length x.P.length, .slice (some ⟨g5_xd, 0, none⟩) x.ts.length x.ts.length] 61) := ⟨_, rfl⟩
          have hb : Below v5.heap.size v5 v6 := by rw [e_v6]; exact (Below.refl _ _).alloc (Nat.le_refl _) _
          have bX : Dep v6 v5.heap.size (v5.heap.size + 1) (fun Wd => Row Wd v5.heap.size [.int .i64 x.w, .slice (some ⟨g1_xd, 0, none⟩) x.ss.length x.ss.length, .slice (some ⟨g2_xd, 0, none⟩) x.ws.length x.ws.length, .bool x.up, .int .i64 x.W, .int .i64 x.S, .int .i64 x.L, .int .i64 x.T, .int .i64 x.H, .int .i64 x.F, .int .i64 x.R, .int .i64 x.U, .int .i64 x.O, .slice (some ⟨g3_xd, 0, none⟩) x.rs.length x.rs.length, .slice (some ⟨g4_xd, 0, none⟩) x.P.length x.P.length, .slice (some ⟨g5_xd, 0, none⟩) x.ts.length x.ts.length]) := by rw [e_v6]; exact dep_box _ _ _
          have s_v6 : v5.heap.size + 1 ≤ v6.heap.size := by rw [e_v6]; simp
          rw [← e_v6]
          clear e_v6
          have n_bA := bA.below hb
          clear bA
          have bA := n_bA
          clear n_bA
          have n_xd := xd.below hb
          clear xd
          have xd := n_xd
          clear n_xd
          have n_hE := hE.trans (hb.mono hE.size)
          clear hE
          have hE := n_hE
          clear n_hE
          clear hb
          as_aux_lemma =>
            refine (HVI.out _ _ xd.now.at (Nat.le_refl _)).mono ?_
            rintro e v7 ⟨rfl, hb⟩
            have s_v7 : v6.heap.size ≤ v7.heap.size := hb.size
            have n_bA := bA.below hb
            clear bA
            have bA := n_bA
            clear n_bA
            have n_xd := xd.below hb
            clear xd
            have xd := n_xd
            clear n_xd
            have n_bX := bX.below hb
            clear bX
            have bX := n_bX
            clear n_bX
            have n_hE := hE.trans (hb.mono hE.size)
            clear hE
            have hE := n_hE
            clear n_hE
            clear hb
            as_aux_lemma =>
              have q_bA_0 := bA.now.cell 0 _ rfl
              have q_bA_1 := bA.now.cell 1 _ rfl
              have q_bA_2 := bA.now.cell 2 _ rfl
              have q_bA_3 := bA.now.cell 3 _ rfl
              have q_bA_4 := bA.now.cell 4 _ rfl
              have q_bA_5 := bA.now.cell 5 _ rfl
              have q_bA_6 := bA.now.cell 6 _ rfl
              have q_bA_7 := bA.now.cell 7 _ rfl
              have q_bA_8 := bA.now.cell 8 _ rfl
              have q_bA_9 := bA.now.cell 9 _ rfl
              have q_bA_10 := bA.now.cell 10 _ rfl
              have q_bA_11 := bA.now.cell 11 _ rfl
              have q_bA_12 := bA.now.cell 12 _ rfl
              have q_bA_13 := bA.now.cell 13 _ rfl
              have q_bA_14 := bA.now.cell 14 _ rfl
              have q_bA_15 := bA.now.cell 15 _ rfl
              have q_bA_l := bA.now.lt
              have q_bX_0 := bX.now.cell 0 _ rfl
              have q_bX_1 := bX.now.cell 1 _ rfl
              have q_bX_2 := bX.now.cell 2 _ rfl
              have q_bX_3 := bX.now.cell 3 _ rfl
              have q_bX_4 := bX.now.cell 4 _ rfl
              have q_bX_5 := bX.now.cell 5 _ rfl
              have q_bX_6 := bX.now.cell 6 _ rfl
              have q_bX_7 := bX.now.cell 7 _ rfl
              have q_bX_8 := bX.now.cell 8 _ rfl
              have q_bX_9 := bX.now.cell 9 _ rfl
              have q_bX_10 := bX.now.cell 10 _ rfl
              have q_bX_11 := bX.now.cell 11 _ rfl
              have q_bX_12 := bX.now.cell 12 _ rfl
              have q_bX_13 := bX.now.cell 13 _ rfl
              have q_bX_14 := bX.now.cell 14 _ rfl
              have q_bX_15 := bX.now.cell 15 _ rfl
              have q_bX_l := bX.now.lt
              go_wp2_with fail
              clear q_bA_0 q_bA_1 q_bA_2 q_bA_3 q_bA_4 q_bA_5 q_bA_6 q_bA_7 q_bA_8 q_bA_9 q_bA_10 q_bA_11 q_bA_12 q_bA_13 q_bA_14 q_bA_15 q_bA_l q_bX_0 q_bX_1 q_bX_2 q_bX_3 q_bX_4 q_bX_5 q_bX_6 q_bX_7 q_bX_8 q_bX_9 q_bX_10 q_bX_11 q_bX_12 q_bX_13 q_bX_14 q_bX_15 q_bX_l
              as_aux_lemma =>
                have HK : Hid (∀ W, Below v7.heap.size v7 W → W.cell? ⟨w.heap.size, 0, none⟩ = some (.int .i64 x.w) ∧ W.cell? ⟨w.heap.size, 1, none⟩ = some (.slice q.a x.ss.length q.c) ∧ W.cell? ⟨w.heap.size, 2, none⟩ = some (.slice q.a' x.ws.length q.c') ∧ W.cell? ⟨w.heap.size, 3, none⟩ = some (.bool x.up) ∧ W.cell? ⟨w.heap.size, 4, none⟩ = some (.int .i64 x.W) ∧ W.cell? ⟨w.heap.size, 5, none⟩ = some (.int .i64 x.S) ∧ W.cell? ⟨w.heap.size, 6, none⟩ = some (.int .i64 x.L) ∧ W.cell? ⟨w.heap.size, 7, none⟩ = some (.int .i64 x.T) ∧ W.cell? ⟨w.heap.size, 8, none⟩ = some (.int .i64 x.H) ∧ W.cell? ⟨w.heap.size, 9, none⟩ = some (.int .i64 x.F) ∧ W.cell? ⟨w.heap.size, 10, none⟩ = some (.int .i64 x.R) ∧ W.cell? ⟨w.heap.size, 11, none⟩ = some (.int .i64 x.U) ∧ W.cell? ⟨w.heap.size, 12, none⟩ = some (.int .i64 x.O) ∧ W.cell? ⟨w.heap.size, 13, none⟩ = some (.slice q.s x.rs.length q.cs) ∧ W.cell? ⟨w.heap.size, 14, none⟩ = some (.slice q.p x.P.length q.cp) ∧ W.cell? ⟨w.heap.size, 15, none⟩ = some (.slice q.t x.ts.length q.ct) ∧ W.cell? ⟨v5.heap.size, 0, none⟩ = some (.int .i64 x.w) ∧ W.cell? ⟨v5.heap.size, 1, none⟩ = some (.slice (some ⟨g1_xd, 0, none⟩) x.ss.length x.ss.length) ∧ W.cell? ⟨v5.heap.size, 2, none⟩ = some (.slice (some ⟨g2_xd, 0, none⟩) x.ws.length x.ws.length) ∧ W.cell? ⟨v5.heap.size, 3, none⟩ = some (.bool x.up) ∧ W.cell? ⟨v5.heap.size, 4, none⟩ = some (.int .i64 x.W) ∧ W.cell? ⟨v5.heap.size, 5, none⟩ = some (.int .i64 x.S) ∧ W.cell? ⟨v5.heap.size, 6, none⟩ = some (.int .i64 x.L) ∧ W.cell? ⟨v5.heap.size, 7, none⟩ = some (.int .i64 x.T) ∧ W.cell? ⟨v5.heap.size, 8, none⟩ = some (.int .i64 x.H) ∧ W.cell? ⟨v5.heap.size, 9, none⟩ = some (.int .i64 x.F) ∧ W.cell? ⟨v5.heap.size, 10, none⟩ = some (.int .i64 x.R) ∧ W.cell? ⟨v5.heap.size, 11, none⟩ = some (.int .i64 x.U) ∧ W.cell? ⟨v5.heap.size, 12, none⟩ = some (.int .i64 x.O) ∧ W.cell? ⟨v5.heap.size, 13, none⟩ = some (.slice (some ⟨g3_xd, 0, none⟩) x.rs.length x.rs.length) ∧ W.cell? ⟨v5.heap.size, 14, none⟩ = some (.slice (some ⟨g4_xd, 0, none⟩) x.P.length x.P.length) ∧ W.cell? ⟨v5.heap.size, 15, none⟩ = some (.slice (some ⟨g5_xd, 0, none⟩) x.ts.length x.ts.length)) := fun W hb => ⟨(bA.below hb).now.cell 0 _ rfl, (bA.below hb).now.cell 1 _ rfl, (bA.below hb).now.cell 2 _ rfl, (bA.below hb).now.cell 3 _ rfl, (bA.below hb).now.cell 4 _ rfl, (bA.below hb).now.cell 5 _ rfl, (bA.below hb).now.cell 6 _ rfl, (bA.below hb).now.cell 7 _ rfl, (bA.below hb).now.cell 8 _ rfl, (bA.below hb).now.cell 9 _ rfl, (bA.below hb).now.cell 10 _ rfl, (bA.below hb).now.cell 11 _ rfl, (bA.below hb).now.cell 12 _ rfl, (bA.below hb).now.cell 13 _ rfl, (bA.below hb).now.cell 14 _ rfl, (bA.below hb).now.cell 15 _ rfl, (bX.below hb).now.cell 0 _ rfl, (bX.below hb).now.cell 1 _ rfl, (bX.below hb).now.cell 2 _ rfl, (bX.below hb).now.cell 3 _ rfl, (bX.below hb).now.cell 4 _ rfl, (bX.below hb).now.cell 5 _ rfl, (bX.below hb).now.cell 6 _ rfl, (bX.below hb).now.cell 7 _ rfl, (bX.below hb).now.cell 8 _ rfl, (bX.below hb).now.cell 9 _ rfl, (bX.below hb).now.cell 10 _ rfl, (bX.below hb).now.cell 11 _ rfl, (bX.below hb).now.cell 12 _ rfl, (bX.below hb).now.cell 13 _ rfl, (bX.below hb).now.cell 14 _ rfl, (bX.below hb).now.cell 15 _ rfl⟩
                refine wp_region_held_drew (S := fun w' => w'.cell? ⟨w.heap.size, 0, none⟩ = some (.int .i64 x.w) ∧ w'.cell? ⟨w.heap.size, 1, none⟩ = some (.slice q.a x.ss.length q.c) ∧ w'.cell? ⟨w.heap.size, 2, none⟩ = some (.slice q.a' x.ws.length q.c') ∧ w'.cell? ⟨w.heap.size, 3, none⟩ = some (.bool x.up) ∧ w'.cell? ⟨w.heap.size, 4, none⟩ = some (.int .i64 x.W) ∧ w'.cell? ⟨w.heap.size, 5, none⟩ = some (.int .i64 x.S) ∧ w'.cell? ⟨w.heap.size, 6, none⟩ = some (.int .i64 x.L) ∧ w'.cell? ⟨w.heap.size, 7, none⟩ = some (.int .i64 x.T) ∧ w'.cell? ⟨w.heap.size, 8, none⟩ = some (.int .i64 x.H) ∧ w'.cell? ⟨w.heap.size, 9, none⟩ = some (.int .i64 x.F) ∧ w'.cell? ⟨w.heap.size, 10, none⟩ = some (.int .i64 x.R) ∧ w'.cell? ⟨w.heap.size, 11, none⟩ = some (.int .i64 x.U) ∧ w'.cell? ⟨w.heap.size, 12, none⟩ = some (.int .i64 x.O) ∧ w'.cell? ⟨w.heap.size, 13, none⟩ = some (.slice q.s x.rs.length q.cs) ∧ w'.cell? ⟨w.heap.size, 14, none⟩ = some (.slice q.p x.P.length q.cp) ∧ w'.cell? ⟨w.heap.size, 15, none⟩ = some (.slice q.t x.ts.length q.ct) ∧ w'.cell? ⟨v5.heap.size, 0, none⟩ = some (.int .i64 x.w) ∧ w'.cell? ⟨v5.heap.size, 1, none⟩ = some (.slice (some ⟨g1_xd, 0, none⟩) x.ss.length x.ss.length) ∧ w'.cell? ⟨v5.heap.size, 2, none⟩ = some (.slice (some ⟨g2_xd, 0, none⟩) x.ws.length x.ws.length) ∧ w'.cell? ⟨v5.heap.size, 3, none⟩ = some (.bool x.up) ∧ w'.cell? ⟨v5.heap.size, 4, none⟩ = some (.int .i64 x.W) ∧ w'.cell? ⟨v5.heap.size, 5, none⟩ = some (.int .i64 x.S) ∧ w'.cell? ⟨v5.heap.size, 6, none⟩ = some (.int .i64 x.L) ∧ w'.cell? ⟨v5.heap.size, 7, none⟩ = some (.int .i64 x.T) ∧ w'.cell? ⟨v5.heap.size, 8, none⟩ = some (.int .i64 x.H) ∧ w'.cell? ⟨v5.heap.size, 9, none⟩ = some (.int .i64 x.F) ∧ w'.cell? ⟨v5.heap.size, 10, none⟩ = some (.int .i64 x.R) ∧ w'.cell? ⟨v5.heap.size, 11, none⟩ = some (.int .i64 x.U) ∧ w'.cell? ⟨v5.heap.size, 12, none⟩ = some (.int .i64 x.O) ∧ w'.cell? ⟨v5.heap.size, 13, none⟩ = some (.slice (some ⟨g3_xd, 0, none⟩) x.rs.length x.rs.length) ∧ w'.cell? ⟨v5.heap.size, 14, none⟩ = some (.slice (some ⟨g4_xd, 0, none⟩) x.P.length x.P.length) ∧ w'.cell? ⟨v5.heap.size, 15, none⟩ = some (.slice (some ⟨g5_xd, 0, none⟩) x.ts.length x.ts.length)) (by kernel_rfl) (HK.out _ (Below.refl _ _).drew) (fun hHeld => ?_)
                refine wpAnyH_take (i := 0) (v := .agg #[.int .i64 x.w, .slice (some ⟨g1_xd, 0, none⟩) x.ss.length x.ss.length, .slice (some ⟨g2_xd, 0, none⟩) x.ws.length x.ws.length, .bool x.up, .int .i64 x.W, .int .i64 x.S, .int .i64 x.L, .int .i64 x.T, .int .i64 x.H, .int .i64 x.F, .int .i64 x.R, .int .i64 x.U, .int .i64 x.O, .slice (some ⟨g3_xd, 0, none⟩) x.rs.length x.rs.length, .slice (some ⟨g4_xd, 0, none⟩) x.P.length x.P.length, .slice (some ⟨g5_xd, 0, none⟩) x.ts.length x.ts.length]) rfl (by kernel_rfl) (by kernel_rfl) (by kernel_rfl) (fun _ _ _ h => h) (Or.inl ⟨by rfl, fun w hw => by obtain ⟨z0, z1, z2, z3, z4, z5, z6, z7, z8, z9, z10, z11, z12, z13, z14, z15, z16, z17, z18, z19, z20, z21, z22, z23, z24, z25, z26, z27, z28, z29, z30, z31⟩ := hw; go_simp⟩) hHeld ?_
                simp only [Act.put, List.getElem_toArray, List.getElem_cons_zero, List.getElem_cons_succ, List.setIfInBounds_toArray, List.set_cons_zero, List.set_cons_succ]
                refine wpAnyH_take (i := 1) (v := .agg #[.int .i64 x.w, .slice q.a x.ss.length q.c, .slice q.a' x.ws.length q.c', .bool x.up, .int .i64 x.W, .int .i64 x.S, .int .i64 x.L, .int .i64 x.T, .int .i64 x.H, .int .i64 x.F, .int .i64 x.R, .int .i64 x.U, .int .i64 x.O, .slice q.s x.rs.length q.cs, .slice q.p x.P.length q.cp, .slice q.t x.ts.length q.ct]) rfl (by kernel_rfl) (by kernel_rfl) (by kernel_rfl) (fun _ _ _ h => h) (Or.inl ⟨by rfl, fun w hw => by obtain ⟨z0, z1, z2, z3, z4, z5, z6, z7, z8, z9, z10, z11, z12, z13, z14, z15, z16, z17, z18, z19, z20, z21, z22, z23, z24, z25, z26, z27, z28, z29, z30, z31⟩ := hw; go_simp⟩) hHeld ?_
                simp only [Act.put, List.getElem_toArray, List.getElem_cons_zero, List.getElem_cons_succ, List.setIfInBounds_toArray, List.set_cons_zero, List.set_cons_succ]
                refine wpAnyH_ready (rs := [2]) (by kernel_rfl) (by simp) ?_
                refine AllReadyH.cons rfl (fun K hK => ?_) AllReadyH.nil
                refine step_call (by rfl) 19 #[.agg #[.int .i64 x.w, .slice q.a x.ss.length q.c, .slice q.a' x.ws.length q.c', .bool x.up, .int .i64 x.W, .int .i64 x.S, .int .i64 x.L, .int .i64 x.T, .int .i64 x.H, .int .i64 x.F, .int .i64 x.R, .int .i64 x.U, .int .i64 x.O, .slice q.s x.rs.length q.cs, .slice q.p x.P.length q.cp, .slice q.t x.ts.length q.ct]] (by go_simp) (HTO.out _ ((h.below hE).below (Below.refl _ _).drew)) ?_
                rintro e u1 ⟨g1_u, g2_u, g3_u, g4_u, g5_u, gs_u, rfl, ow_u, hb_u⟩
                refine ⟨_, rfl, ?_⟩
                have hb_u' : Below v7.heap.size v7 u1 := (Below.refl _ _).drew.trans hb_u
                refine hK.out _ _ (HK.out _ hb_u') (fun hHd1 => ?_)
                clear hK K
                try simp only [Act.put, List.getElem_toArray, List.getElem_cons_zero, List.getElem_cons_succ, List.setIfInBounds_toArray, List.set_cons_zero, List.set_cons_succ]
                refine wpAnyH_ready (rs := [3]) (by kernel_rfl) (by simp) ?_
                refine AllReadyH.cons rfl (fun K hK => ?_) AllReadyH.nil
                refine step_call (by rfl) 21 #[.agg #[.int .i64 x.w, .slice (some ⟨g1_xd, 0, none⟩) x.ss.length x.ss.length, .slice (some ⟨g2_xd, 0, none⟩) x.ws.length x.ws.length, .bool x.up, .int .i64 x.W, .int .i64 x.S, .int .i64 x.L, .int .i64 x.T, .int .i64 x.H, .int .i64 x.F, .int .i64 x.R, .int .i64 x.U, .int .i64 x.O, .slice (some ⟨g3_xd, 0, none⟩) x.rs.length x.rs.length, .slice (some ⟨g4_xd, 0, none⟩) x.P.length x.P.length, .slice (some ⟨g5_xd, 0, none⟩) x.ts.length x.ts.length], .agg #[.int .i64 x.w, .slice (some ⟨g1_u, 0, none⟩) x.ss.length x.ss.length, .slice (some ⟨g2_u, 0, none⟩) x.ws.length x.ws.length, .bool x.up, .int .i64 x.W, .int .i64 x.S, .int .i64 x.L, .int .i64 x.T, .int .i64 x.H, .int .i64 x.F, .int .i64 x.R, .int .i64 x.U, .int .i64 x.O, .slice (some ⟨g3_u, 0, none⟩) x.rs.length x.rs.length, .slice (some ⟨g4_u, 0, none⟩) x.P.length x.P.length, .slice (some ⟨g5_u, 0, none⟩) x.ts.length x.ts.length]] (by go_simp) (HEQ.out (WpOf x g1_xd g2_xd g3_xd g4_xd g5_xd) (WpOf x g1_u g2_u g3_u g4_u g5_u) _ (xd.below hb_u').now.at ow_u.at) ?_
                rintro e u2 ⟨rfl, hb_v⟩
                refine ⟨_, rfl, ?_⟩
                have hb_v' := hb_u'.trans (hb_v.mono hb_u'.size)
                refine hK.out _ _ (HK.out _ hb_v') (fun hHd2 => ?_)
                clear hK K
                try simp only [Act.put, List.getElem_toArray, List.getElem_cons_zero, List.getElem_cons_succ, List.setIfInBounds_toArray, List.set_cons_zero, List.set_cons_succ]
                refine wpAnyH_take (i := 4) (v := .bool false) rfl (by kernel_rfl) (by kernel_rfl) (by kernel_rfl) (fun _ _ _ h => h) (Or.inl ⟨by rfl, fun w hw => by obtain ⟨z0, z1, z2, z3, z4, z5, z6, z7, z8, z9, z10, z11, z12, z13, z14, z15, z16, z17, z18, z19, z20, z21, z22, z23, z24, z25, z26, z27, z28, z29, z30, z31⟩ := hw; go_simp⟩) hHd2 ?_
                simp only [Act.put, List.getElem_toArray, List.getElem_cons_zero, List.getElem_cons_succ, List.setIfInBounds_toArray, List.set_cons_zero, List.set_cons_succ]
                refine wpAnyH_done (by kernel_rfl) ?_ _
                as_aux_lemma =>
                  have hfin := hE.trans (hb_v'.mono hE.size)
                  clear HK hb_u hb_u' ow_u hb_v hb_v' hHeld hHd1 hHd2
                  go_wp2
                  go_ret
                  exact ⟨rfl, hfin⟩

set_option maxRecDepth 100000 in
theorem lifted (os : Os) (started : os.Started) (H : Type) (enc : TypeId × Value → H) :
    ReturnsInHanded {} Try.checked os 5 .any (Rows.fnExactValidWorldSpec.pre6 enc Try.prog Try.f5 Rows.fnExactValidWorldRow.domain false) (Rows.fnExactValidWorldSpec.post enc Try.prog Try.f5 false true false false) := by
  refine returnsInHanded_of_change (C := Try.checked) own started (by kernel_rfl) Try.func5
    (ChangeSpec.witness6 (enc := enc) (C := Try.checked) false ⟨#[], #[.agg #[.int .i64 0, .slice none 0 0, .slice none 0 0, .bool false, .int .i64 0, .int .i64 0, .int .i64 0, .int .i64 0, .int .i64 0, .int .i64 0, .int .i64 0, .int .i64 0, .int .i64 0, .slice none 0 0, .slice none 0 0, .slice none 0 0]], []⟩ 8 (by kernel_rfl) (by kernel_rfl) (by kernel_rfl) (by kernel_rfl)) ?_
  intro W base args ds gs before hval0 hW hcnd _
  have hval : ∀ (j : Nat) t v, Try.f5.params[j]? = some t → args[j]? = some v → Value.okWide Try.prog W .any base t v := hval0
  have hW' := hW
  obtain ⟨p, q, hA0, hV, rfl, hfz, hnd⟩ := hW
  have hA : DataW.TrodAll enc Try.prog W 0 (fun _ => true) true Try.f5.params.toList args.toList ds p := hA0
  rw [Try.params5] at hA hval
  obtain ⟨v0, vs0, d0, ds0, p0, q0, hargs, rfl, rfl, h0, r0⟩ := trodAll_cons hA
  obtain ⟨rfl, rfl, rfl⟩ := trodAll_nil r0
  obtain rfl : args = #[v0] := by cases args; simp_all
  obtain ⟨rfl, rfl⟩ := trodVars_none hV
  have k0 := h0
  have lt0 : ∀ x ∈ p0, x.block < W.heap.size := by obtain ⟨m, hm⟩ := k0; exact DataW.trod_lt m _ _ _ hm
  obtain ⟨cs, rfl, hsz⟩ := okWide_struct Try.underlying53 (hval 0 53 v0 rfl rfl)
  obtain ⟨fuel, hf⟩ := h0
  obtain ⟨x, q, hcs, hS, hx⟩ := world_of_trod hf
  have hcs' : worldW x q = .agg cs := by rw [hcs]; simp [Value.cells]
  clear hA0 hval0
  have key := walk x q W hS hx
  rw [hcs'] at key
  refine key.mono fun e W' ⟨he, bel⟩ => ?_
  subst he
  exact ⟨_, rfl, _, _, _, [], _, [], hW', trodAll_mk1 (shut_bool Try.underlying4 _), (trodAll_cons_mk (Below.trod laidOut (by kernel_rfl) (of_decide_eq_true (by kernel_rfl)) k0 bel lt0) trodAll_mk0), rfl, bel.frame _, fun h => by cases h⟩

theorem over : Rows.fnExactValidWorldRow.holds Try.pinned (OpenSpec.ofChange Rows.fnExactValidWorldSpec) :=
  OpenClaim.holds_of_wide 5 Try.f5 rfl rfl rfl rfl rfl rfl rfl ⟨rfl, rfl, rfl, rfl, rfl⟩ rfl rfl rfl rfl rfl (by kernel_rfl) Try.func5 (by kernel_rfl)
    (of_decide_eq_true (by kernel_rfl)) (by unfold Func.isWrapper; first | (rw [if_pos (by decide +kernel)]; kernel_rfl) | (rw [if_neg (by decide +kernel)]; exact ⟨rfl, rfl⟩))
    (fun os started H enc _ => lifted os started H enc)

theorem proved : Rows.FnExactValidWorldSaid := over
#print axioms proved
end Go.Proofs.Ytnmaknnnmjfhkae.fnExactValidWorld
