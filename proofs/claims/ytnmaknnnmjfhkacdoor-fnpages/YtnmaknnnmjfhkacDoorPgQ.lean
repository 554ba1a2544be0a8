import Derived.Test.YtnmaknnnmjfhkacDoorPgR
namespace Go.Proofs.YtnmaknnnmjfhkacDoor
open Go.RowKit
set_option maxRecDepth 8000
set_option linter.unusedVariables false
set_option linter.unusedSimpArgs false

set_option maxHeartbeats 4000000 in
theorem page_r (R : Nat) (a : Option Addr) (n c : Nat) (p : Int) (wd : Nat) (w : World) (h : Rdr w R a n c p) (hp : p < 99998000) (hw1 : 1 ≤ wd) (hw2 : wd ≤ 8) :
    Calls Tryd.prog 20 #[.pointer (some ⟨R, 0, none⟩), .int .i64 (wd : Int)] w fun e w' => (∃ k l m t, e = .returned (pageV k l m t) ∧ t.size ≤ 64000) ∧ RdTo w R a n c p 30 w' := by
  obtain ⟨hN, hNg⟩ := h.lts
  have p0 := h.p0
  go_enter Tryd.func20, Tryd.ntmps20
  go_wp2_with fail
  obtain ⟨w1, e_w1⟩ : ∃ xw, xw = w.alloc (.cells #[.int .i64 0, .int .i64 0, .int .i64 0, .string ⟨#[]⟩] 23) := ⟨_, rfl⟩
  have r4_0 : Row w1.drew w.heap.size [.int .i64 0, .int .i64 0, .int .i64 0, .string ⟨#[]⟩] := by rw [e_w1]; exact (row_new _ _ _).drew
  have rd_0 : Rdr w1.drew R a n c (p + 0) := by rw [e_w1, Int.add_zero]; exact (h.below (below_nw _ _)).drew
  have gr_0 : w.grownBy w1.drew (some R) := by rw [e_w1]; exact grown_of_below (some R) (below_nw _ _).drew
  have s_w1 : w.heap.size + 1 = w1.drew.heap.size := by rw [e_w1]; simp
  rw [← e_w1]
  clear e_w1
  refine Code.wp_mono (Q := fun e act w' => e = .normal ∧ ∃ (d6 d7 d8 d9 d10 d11 d12 d13 d14 d15 d16 d17 d18 d19 : Value) (X : Nat) (k l m : Int), act = { tmps := #[.pointer (some ⟨R, 0, none⟩), .int .i64 (wd : Int), undef, undef, .pointer (some ⟨w.heap.size, 0, none⟩), .pointer (some ⟨X, 0, none⟩), d6, d7, d8, d9, d10, d11, d12, d13, d14, d15, d16, d17, d18, d19, undef, undef, undef, undef, undef, undef, undef, undef, undef, undef, undef, undef, undef, undef, undef, undef, undef], defers := [] } ∧ Row w' X [.int .i64 k, .int .i64 l, .int .i64 m, .string ⟨#[]⟩] ∧ Row w' w.heap.size [.int .i64 0, .int .i64 0, .int .i64 0, .string ⟨#[]⟩] ∧ Rdr w' R a n c (p + 3) ∧ w.heap.size < X ∧ w.grownBy w' (some R)) ?_ ?_
  · rintro e act w' ⟨rfl, d6, d7, d8, d9, d10, d11, d12, d13, d14, d15, d16, d17, d18, d19, X, k, l, m, rfl, hX, hR4, hrd, hXw, hgr⟩
    have p3 := hrd.p0
    have hX0 := hX.cell 0 _ rfl
    have hRl := hrd.lts
    by_cases hk3 : k = 3
    · subst hk3
      have x1 := hX.cell 1 _ rfl
      have x2 := hX.cell 2 _ rfl
      have x3 := hX.cell 3 _ rfl
      have xl := hX.lt
      have y0 := hR4.cell 0 _ rfl
      have y1 := hR4.cell 1 _ rfl
      have y2 := hR4.cell 2 _ rfl
      have y3 := hR4.cell 3 _ rfl
      have yf0 := hR4.froz 0 (by simp)
      have yf1 := hR4.froz 1 (by simp)
      have yf2 := hR4.froz 2 (by simp)
      have yf3 := hR4.froz 3 (by simp)
      have yl := hR4.lt
      go_wp2
      refine bodyPost_ret (v := pageV 3 l m ⟨#[]⟩) (by simp [results, Tryd.results20, go_sem, y0, y1, y2, y3]) rfl ⟨⟨_, _, _, _, rfl, by decide⟩, ⟨p + 3, by omega, by omega, ?_⟩, ?_⟩
      · exact hrd.keep hN hNg (((((Below.refl w.heap.size w').setCell (by show w.heap.size ≤ w.heap.size; omega) _).setCell (by show w.heap.size ≤ w.heap.size; omega) _).setCell (by show w.heap.size ≤ w.heap.size; omega) _).setCell (by show w.heap.size ≤ w.heap.size; omega) _)
      · exact grown_setN (grown_setN (grown_setN (grown_setN hgr _ (by show w.heap.size ≤ w.heap.size; omega) _) _ (by show w.heap.size ≤ w.heap.size; omega) _) _ (by show w.heap.size ≤ w.heap.size; omega) _) _ (by show w.heap.size ≤ w.heap.size; omega) _
    · have x3 := hX.cell 3 _ rfl
      go_wp2_with fail
      refine (text_r R a n c (p + 3) _ hrd (by omega)).mono ?_
      rintro e w2 ⟨⟨t, rfl, ht⟩, ⟨q, q0, q1, hr2⟩, hg2⟩
      have hX2 := hX.grown hg2 (fun e => by injection e with e; omega)
      have hR42 := hR4.grown hg2 (fun e => by injection e with e; omega)
      have gr2 := grown_trans hgr hg2
      have c3 := hX2.cell 3 _ rfl
      have f3 := hX2.froz 3 (by simp)
      have l3 := hX2.lt
      go_wp2_with fail
      obtain ⟨w3, e_w3⟩ : ∃ xw, xw = w2.setCell ⟨X, 3, none⟩ (.string t) := ⟨_, rfl⟩
      have hX3 : Row w3 X [.int .i64 k, .int .i64 l, .int .i64 m, .string t] := by rw [e_w3]; exact hX2.set 3 (by simp) _
      have hR43 : Row w3 w.heap.size [.int .i64 0, .int .i64 0, .int .i64 0, .string ⟨#[]⟩] := by rw [e_w3]; exact hR42.other _ (by show X ≠ w.heap.size; omega) _
      have hr3 : Rdr w3 R a n c q := by rw [e_w3]; exact hr2.keep hN hNg ((Below.refl w.heap.size w2).setCell (by show w.heap.size ≤ X; omega) _)
      have gr3 : w.grownBy w3 (some R) := by rw [e_w3]; exact grown_setN gr2 _ (by show w.heap.size ≤ X; omega) _
      rw [← e_w3]
      clear e_w3 hX0 x3 c3 f3 l3
      refine (pick_r R a n c q 4 _ hr3 (by omega)).mono ?_
      rintro e w4 ⟨⟨v, rfl, v0, v1⟩, hr4, hg4⟩
      have hX4 := hX3.grown hg4 (fun e => by injection e with e; omega)
      have hR44 := hR43.grown hg4 (fun e => by injection e with e; omega)
      have gr4 := grown_trans gr3 hg4
      by_cases hv : v = 0
      · subst hv
        go_wp2_with fail
        refine (part_s (wd : Int) _ (by omega) (by omega)).mono ?_
        rintro e wz ⟨rfl, hwz⟩
        rw [hwz]
        clear hwz wz
        go_wp2_with fail
        refine (pick_r R a n c (q + 1) 2 _ hr4 (by omega)).mono ?_
        rintro e w5 ⟨⟨y, rfl, y0, y1⟩, hr5, hg5⟩
        have hsub : IntKind.i64.wrap (64 - (wd : Int) - 8 - y) = 64 - (wd : Int) - 8 - y := wrap_i64_id _ (by omega) (by omega)
        go_wp2_with fail
        refine (many_r ⟨#[112]⟩ (64 - (wd : Int) - 8 - y) _ (by decide) (by omega)).mono ?_
        rintro e w6 ⟨⟨t2, rfl, ht2⟩, hb6⟩
        have hX6 := (hX4.grown hg5 (fun e => by injection e with e; omega)).below hb6
        have hR46 := (hR44.grown hg5 (fun e => by injection e with e; omega)).below hb6
        have gr6 := grown_trans (grown_trans gr4 hg5) (grown_of_below (some R) hb6)
        have hr6 := hr5.below hb6
        have xx0 := hX6.cell 0 _ rfl
        have xx1 := hX6.cell 1 _ rfl
        have xx2 := hX6.cell 2 _ rfl
        have xx3 := hX6.cell 3 _ rfl
        have xxf := hX6.froz 3 (by simp)
        have xxl := hX6.lt
        have yy0 := hR46.cell 0 _ rfl
        have yyf0 := hR46.froz 0 (by simp)
        have yy1 := hR46.cell 1 _ rfl
        have yyf1 := hR46.froz 1 (by simp)
        have yy2 := hR46.cell 2 _ rfl
        have yyf2 := hR46.froz 2 (by simp)
        have yy3 := hR46.cell 3 _ rfl
        have yyf3 := hR46.froz 3 (by simp)
        have yyl := hR46.lt
        go_wp2
        refine bodyPost_ret (v := pageV k l m t2) (by simp [results, Tryd.results20, go_sem, yy0, yy1, yy2, yy3]) rfl ⟨⟨_, _, _, _, rfl, by omega⟩, ⟨q + 1 + 1, by omega, by omega, ?_⟩, ?_⟩
        · exact hr6.keep hN hNg ((((((Below.refl w.heap.size w6).setCell (p := ⟨X, 3, none⟩) (by show w.heap.size ≤ X; omega) (.string t2)).setCell (by show w.heap.size ≤ w.heap.size; omega) _).setCell (by show w.heap.size ≤ w.heap.size; omega) _).setCell (by show w.heap.size ≤ w.heap.size; omega) _).setCell (by show w.heap.size ≤ w.heap.size; omega) _)
        · exact (grown_setN (grown_setN (grown_setN (grown_setN (grown_setN gr6 ⟨X, 3, none⟩ (by show w.heap.size ≤ X; omega) (.string t2)) _ (by show w.heap.size ≤ w.heap.size; omega) _) _ (by show w.heap.size ≤ w.heap.size; omega) _) _ (by show w.heap.size ≤ w.heap.size; omega) _) _ (by show w.heap.size ≤ w.heap.size; omega) _)
      · have xx0 := hX4.cell 0 _ rfl
        have xx1 := hX4.cell 1 _ rfl
        have xx2 := hX4.cell 2 _ rfl
        have xx3 := hX4.cell 3 _ rfl
        have xxf := hX4.froz 3 (by simp)
        have xxl := hX4.lt
        have yy0 := hR44.cell 0 _ rfl
        have yyf0 := hR44.froz 0 (by simp)
        have yy1 := hR44.cell 1 _ rfl
        have yyf1 := hR44.froz 1 (by simp)
        have yy2 := hR44.cell 2 _ rfl
        have yyf2 := hR44.froz 2 (by simp)
        have yy3 := hR44.cell 3 _ rfl
        have yyf3 := hR44.froz 3 (by simp)
        have yyl := hR44.lt
        go_wp2
        refine bodyPost_ret (v := pageV k l m t) (by simp [results, Tryd.results20, go_sem, yy0, yy1, yy2, yy3]) rfl ⟨⟨_, _, _, _, rfl, by omega⟩, ⟨q + 1, by omega, by omega, ?_⟩, ?_⟩
        · exact hr4.keep hN hNg (((((Below.refl w.heap.size w4).setCell (by show w.heap.size ≤ w.heap.size; omega) _).setCell (by show w.heap.size ≤ w.heap.size; omega) _).setCell (by show w.heap.size ≤ w.heap.size; omega) _).setCell (by show w.heap.size ≤ w.heap.size; omega) _)
        · exact (grown_setN (grown_setN (grown_setN (grown_setN gr4 _ (by show w.heap.size ≤ w.heap.size; omega) _) _ (by show w.heap.size ≤ w.heap.size; omega) _) _ (by show w.heap.size ≤ w.heap.size; omega) _) _ (by show w.heap.size ≤ w.heap.size; omega) _)
  · have hQ : ∀ (act : Act) (w' : World), (∃ (d6 d7 d8 d9 d10 d11 d12 d13 d14 d15 d16 d17 d18 d19 : Value) (X : Nat) (k l m : Int), act = { tmps := #[.pointer (some ⟨R, 0, none⟩), .int .i64 (wd : Int), undef, undef, .pointer (some ⟨w.heap.size, 0, none⟩), .pointer (some ⟨X, 0, none⟩), d6, d7, d8, d9, d10, d11, d12, d13, d14, d15, d16, d17, d18, d19, undef, undef, undef, undef, undef, undef, undef, undef, undef, undef, undef, undef, undef, undef, undef, undef, undef], defers := [] } ∧ Row w' X [.int .i64 k, .int .i64 l, .int .i64 m, .string ⟨#[]⟩] ∧ Row w' w.heap.size [.int .i64 0, .int .i64 0, .int .i64 0, .string ⟨#[]⟩] ∧ Rdr w' R a n c (p + 3) ∧ w.heap.size < X ∧ w.grownBy w' (some R)) → (fun (e : Exit) (act : Act) (w' : World) => e = .normal ∧ ∃ (d6 d7 d8 d9 d10 d11 d12 d13 d14 d15 d16 d17 d18 d19 : Value) (X : Nat) (k l m : Int), act = { tmps := #[.pointer (some ⟨R, 0, none⟩), .int .i64 (wd : Int), undef, undef, .pointer (some ⟨w.heap.size, 0, none⟩), .pointer (some ⟨X, 0, none⟩), d6, d7, d8, d9, d10, d11, d12, d13, d14, d15, d16, d17, d18, d19, undef, undef, undef, undef, undef, undef, undef, undef, undef, undef, undef, undef, undef, undef, undef, undef, undef], defers := [] } ∧ Row w' X [.int .i64 k, .int .i64 l, .int .i64 m, .string ⟨#[]⟩] ∧ Row w' w.heap.size [.int .i64 0, .int .i64 0, .int .i64 0, .string ⟨#[]⟩] ∧ Rdr w' R a n c (p + 3) ∧ w.heap.size < X ∧ w.grownBy w' (some R)) .normal act w' := fun act w' h => ⟨rfl, h⟩
    have hQp : ∀ cx (a' : Act) (w' : World), ¬ (fun (e : Exit) (act : Act) (w' : World) => e = .normal ∧ ∃ (d6 d7 d8 d9 d10 d11 d12 d13 d14 d15 d16 d17 d18 d19 : Value) (X : Nat) (k l m : Int), act = { tmps := #[.pointer (some ⟨R, 0, none⟩), .int .i64 (wd : Int), undef, undef, .pointer (some ⟨w.heap.size, 0, none⟩), .pointer (some ⟨X, 0, none⟩), d6, d7, d8, d9, d10, d11, d12, d13, d14, d15, d16, d17, d18, d19, undef, undef, undef, undef, undef, undef, undef, undef, undef, undef, undef, undef, undef, undef, undef, undef, undef], defers := [] } ∧ Row w' X [.int .i64 k, .int .i64 l, .int .i64 m, .string ⟨#[]⟩] ∧ Row w' w.heap.size [.int .i64 0, .int .i64 0, .int .i64 0, .string ⟨#[]⟩] ∧ Rdr w' R a n c (p + 3) ∧ w.heap.size < X ∧ w.grownBy w' (some R)) (.panic cx) a' w' := fun cx a' w' h => by cases h.1
    exact wp_region_held_drew (ops := pgSOps) (S := fun w' => True) (by kernel_rfl) (trivial) (fun hHeld => pgS_b hp p0 hN hNg hQ hQp _ (rd_0) (gr_0) (r4_0) hHeld)
end Go.Proofs.YtnmaknnnmjfhkacDoor
