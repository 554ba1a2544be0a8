import Derived.Test.YtnmaknnnmjfhkaeDoorQxScanRpL
import Derived.Test.YtnmaknnnmjfhkaeDoorAs
namespace Go.Proofs.YtnmaknnnmjfhkaeDoor
open Go.RowKit
set_option maxRecDepth 4000
set_option linter.unusedVariables false
set_option linter.unusedSimpArgs false
theorem parse_any (s : ByteArray) (n : Int) (w : World) (ty : TypeId) (v : Value) (hv : w.cell? ⟨1, 0, none⟩ = some (.iface ty v)) (hg : 1 < w.heap.size) : Calls Tryd.prog 98 #[.string s, .int .i64 n] w fun e w' => (∃ E, e = .returned (prV E (rpRes s n))) ∧ Below w.heap.size w w' := by
  by_cases hn : 1 ≤ n ∧ n ≤ 8
  · obtain ⟨m, rfl⟩ : ∃ m : Nat, n = (m : Int) := ⟨n.toNat, by omega⟩
    by_cases hs : s.size = 64
    · obtain ⟨fN, fK, fL, fM, fP⟩ := rp_fields s m hs (by omega) rfl
      have ln : (nums s).length = 64 := by rw [nums_length, hs]
      have rg := nums_range' s
      have sub : ∀ o k, ∀ y ∈ ((nums s).drop o).take k, 0 ≤ y ∧ y ≤ 255 := fun o k y hy => rg y (List.mem_of_mem_drop (List.mem_of_mem_take hy))
      have bN := numOf_rng 1 _ (by simp; omega) (sub (m + 7) 1)
      have bK := numOf_rng 1 _ (by simp; omega) (sub m 1)
      have bL := numOf_rng 2 _ (by simp; omega) (sub (m + 1) 2)
      have bM := numOf_rng 4 _ (by simp; omega) (sub (m + 3) 4)
      rw [← fN] at bN
      rw [← fK] at bK
      rw [← fL] at bL
      rw [← fM] at bM
      by_cases hN : rpN (s.extract m 64) + m ≤ 56
      · have h := parse_main s m _ _ _ _ _ w ty v hv hg hs (by omega) (by omega) fN hN fK fL fM fP bK.1 (by have := bK.2; omega) bL.1 (by have := bL.2; omega) bM.1 (by have := bM.2; omega)
        have hR : rpRes s (m : Int) = if formOf (rpK (s.extract m 64)) (rpL (s.extract m 64)) (rpM (s.extract m 64)) (rpP (s.extract m 64)) (m : Int) = s then some (rpK (s.extract m 64), rpL (s.extract m 64), rpM (s.extract m 64), rpP (s.extract m 64)) else none := by
          unfold rpRes
          rw [Int.toNat_natCast]
          by_cases hF : formOf (rpK (s.extract m 64)) (rpL (s.extract m 64)) (rpM (s.extract m 64)) (rpP (s.extract m 64)) (m : Int) = s
          · rw [if_pos hF, if_pos ⟨by omega, by omega, hs, by omega, hF⟩]
          · rw [if_neg hF, if_neg (fun hh => hF hh.2.2.2.2)]
        rw [hR]
        exact h
      · rw [rpRes_no (fun hh => hN (by have := hh.2.2.2.1; rw [Int.toNat_natCast] at this; omega))]
        exact parse_no_part s m _ w ty v hv hg hs (by omega) (by omega) fN (by omega) (by have := bN.2; omega)
    · rw [rpRes_no (fun hh => hs hh.2.2.1)]
      exact parse_no_size s m w ty v hv hg hn hs
  · rw [rpRes_no (fun hh => hn ⟨hh.1, hh.2.1⟩)]
    exact parse_no_width s n w ty v hv hg hn
theorem as_hit_b (e t : Addr) (old : Value) (w : World) (hg : w.cell? ⟨0, 0, none⟩ = some (.iface 177 (.agg #[.pointer (some ⟨2, 91, none⟩)]))) (ht0 : w.cell? t = some old) (hf0 : w.frozen? t = false) (hlt : t.block < w.heap.size) :
    Calls Tryd.prog 99 #[.iface 157 (.pointer (some e)), .iface 159 (.pointer (some t))] w fun ev w' => ev = .returned (.bool true) ∧ Below t.block w w' :=
  (as_hit e t old w hg ht0 hf0).mono fun ev w' h => ⟨h.1, by
    rw [h.2]
    exact (((((Below.refl t.block w).alloc (by omega) _).alloc (by simp; omega) _).alloc (by simp; omega) _).alloc (by simp; omega) _).setCell (Nat.le_refl _) _⟩
theorem as_nil_b (t : Value) (w : World) : Calls Tryd.prog 99 #[.nilIface, t] w fun e w' => e = .returned (.bool false) ∧ Below w.heap.size w w' :=
  (as_nil t w).mono fun e w' h => ⟨h.1, by rw [h.2]; exact Below.refl _ _⟩
theorem RB.past {W w w' : World} (h : RB W w) {B : Nat} (hB : W.heap.size < B) (hb : Below B w w') : RB W w' := by
  have hs := h.size
  have hc : ∀ i, w'.cell? ⟨W.heap.size, i, none⟩ = w.cell? ⟨W.heap.size, i, none⟩ := fun i => hb.cell (p := ⟨W.heap.size, i, none⟩) (by show W.heap.size < _; omega)
  have hf : ∀ i, w'.frozen? ⟨W.heap.size, i, none⟩ = w.frozen? ⟨W.heap.size, i, none⟩ := fun i => hb.frozen (p := ⟨W.heap.size, i, none⟩) (by show W.heap.size < _; omega)
  exact ⟨Nat.le_trans hs hb.size, h.bel.trans (hb.mono (by omega)), (hc _).trans h.c0, (hc _).trans h.c1, (hc _).trans h.c2, (hc _).trans h.c3, (hf _).trans h.f0, (hf _).trans h.f1, (hf _).trans h.f2, (hf _).trans h.f3⟩
set_option maxHeartbeats 1000000 in
theorem readpage_i (s : ByteArray) (n : Int) (w : World) (ty : TypeId) (v : Value) (hv : w.cell? ⟨1, 0, none⟩ = some (.iface ty v)) (h0 : w.cell? ⟨0, 0, none⟩ = some (.iface 177 (.agg #[.pointer (some ⟨2, 91, none⟩)]))) (hg : 1 < w.heap.size) : Calls Tryd.prog 93 #[.string s, .int .i64 n] w fun e w' => e = .returned (rpV (rpRes s n)) ∧ Below w.heap.size w w' := by
  obtain ⟨R, HR⟩ : ∃ R, Hid (R = rpRes s n) := ⟨_, hid0 rfl⟩
  rw [← HR.out]
  have hb0 : ∀ o, Below w.heap.size w (w.alloc o) := fun o => (Below.refl _ _).alloc (Nat.le_refl _) _
  have hva : ∀ o, (w.alloc o).cell? ⟨1, 0, none⟩ = some (.iface ty v) := fun o => (World.cell?_alloc_past _ _ _ (by exact hg)).trans hv
  have HG : Hid (∀ w', Below w.heap.size w w' → w'.cell? ⟨0, 0, none⟩ = some (.iface 177 (.agg #[.pointer (some ⟨2, 91, none⟩)]))) := fun w' hb => (hb.cell (p := ⟨0, 0, none⟩) (by show 0 < _; omega)).trans h0
  have par := fun o => parse_any s n (w.alloc o) ty v (hva o) (by simp; omega)
  rw [← HR.out] at par
  cases R with
  | none =>
    simp only [prV] at par
    go_enter Tryd.func93, Tryd.ntmps93
    go_wp2_with (first | (go_at_call 98; refine (par _).mono ?_; rintro e w2 ⟨⟨E, rfl⟩, hb2⟩; have HB2 := hid0 ((RB.new w _).below hb2); clear hb2) | (go_at_call 99; refine (as_hit_b E ⟨w2.heap.size + 1, 0, none⟩ (.pointer none) _ (HG.out _ ((HB2.out.alloc _).alloc _).bel) (by go_simp) (by go_simp) (by simp)).mono ?_; rintro e w4 ⟨rfl, hb4⟩; have hr4 := ((HB2.out.alloc _).alloc _).past (B := w2.heap.size + 1) (by have := HB2.out.size; omega) hb4; clear hb4; have c0 := hr4.c0; have c1 := hr4.c1; have c2 := hr4.c2; have c3 := hr4.c3; have f0 := hr4.f0; have f1 := hr4.f1; have f2 := hr4.f2; have f3 := hr4.f3; have HR4 := hid0 hr4; clear hr4))
    refine bodyPost_ret (v := .tuple #[pageV 0 0 0 ⟨#[]⟩, .bool false]) (by simp [results, Tryd.results93, go_sem, c0, c1, c2, c3]) rfl ⟨rfl, ?_⟩
    exact (((HR4.out.bel.setCell (Nat.le_refl _) _).setCell (Nat.le_refl _) _).setCell (Nat.le_refl _) _).setCell (Nat.le_refl _) _
  | some x =>
    obtain ⟨k, l, m, p⟩ := x
    simp only [prV] at par
    go_enter Tryd.func93, Tryd.ntmps93
    go_wp2_with (first | (go_at_call 98; refine (par _).mono ?_; rintro e w2 ⟨⟨E, rfl⟩, hb2⟩; have HB2 := hid0 ((RB.new w _).below hb2); clear hb2) | (go_at_call 99; refine (as_nil_b _ _).mono ?_; rintro e w4 ⟨rfl, hb4⟩; have hr4 := ((HB2.out.alloc _).alloc _).below hb4; have hp := ((pg_new w2 w2.heap.size rfl (.int .i64 k) (.int .i64 l) (.int .i64 m) (.string p) _).below ((Below.refl _ _).alloc (Nat.le_refl _) _) (by simp)).below hb4 (by simp <;> omega); clear hb4; have p0 := hp.c0; have p1 := hp.c1; have p2 := hp.c2; have p3 := hp.c3; clear hp; have c0 := hr4.c0; have c1 := hr4.c1; have c2 := hr4.c2; have c3 := hr4.c3; have f0 := hr4.f0; have f1 := hr4.f1; have f2 := hr4.f2; have f3 := hr4.f3; have HR4 := hid0 hr4; clear hr4))
    refine bodyPost_ret (v := .tuple #[pageV k l m p, .bool true]) (by simp [results, Tryd.results93, go_sem, c0, c1, c2, c3]) rfl ⟨rfl, ?_⟩
    exact (((HR4.out.bel.setCell (Nat.le_refl _) _).setCell (Nat.le_refl _) _).setCell (Nat.le_refl _) _).setCell (Nat.le_refl _) _
end Go.Proofs.YtnmaknnnmjfhkaeDoor
