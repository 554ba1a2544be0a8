import Derived.Test.YtnmaknnnmjfhkaeDoorPrRpL
import Derived.Test.YtnmaknnnmjfhkaeDoorPrAs
import Derived.Laws.IdiomStrings
import Derived.Laws.BytesArg
import Derived.Test.YtnmaknnnmjfhkaeDoorPrG40
import Derived.Test.YtnmaknnnmjfhkaeDoorPrScE
import Derived.Test.YtnmaknnnmjfhkaeDoorPrG39
import Derived.Test.YtnmaknnnmjfhkaeDoorPrG38
import Derived.Test.YtnmaknnnmjfhkaeDoorPrG46
import Derived.Test.YtnmaknnnmjfhkaeDoorPrG32
import Derived.Test.YtnmaknnnmjfhkaeDoorPrG30
import Derived.Test.YtnmaknnnmjfhkaeDoorPrRpS
import Derived.Test.YtnmaknnnmjfhkaeDoorPrG29
set_option maxHeartbeats 16000000
set_option maxRecDepth 8000
namespace Go.Proofs.YtnmaknnnmjfhkaeDoor
open Go.RowKit
set_option maxRecDepth 4000
set_option linter.unusedVariables false
set_option linter.unusedSimpArgs false
theorem parse_any (s : ByteArray) (n : Int) (w : World) (ty : TypeId) (v : Value) (hv : w.cell? ⟨1, 0, none⟩ = some (.iface ty v)) (hg : 1 < w.heap.size) : Calls Tryd.prog 98 #[.string s, .int .i64 n] w fun e w' => (∃ E, e = .returned (prV E (rpRes s n))) ∧ Below w.heap.size w w' := by
  by_cases hn : 1 ≤ n ∧ n ≤ 8
  · obtain ⟨m, rfl⟩ : ∃ m : Nat, n = (m : Int) := ⟨n.toNat, by omega⟩
    by_cases hs : s.size = 64
    · obtain ⟨fN, fK, fL, fM, fP⟩ := rp_fields s m hs (by omega) rfl
      have ln : (nums s).length = 64 := by rw [nums_length, hs]
      have rg := nums_range' s
      have sub : ∀ o k, ∀ y ∈ ((nums s).drop o).take k, 0 ≤ y ∧ y ≤ 255 := fun o k y hy => rg y (List.mem_of_mem_drop (List.mem_of_mem_take hy))
      have bN := numOf_rng 1 _ (by simp; omega) (sub (m + 7) 1)
      have bK := numOf_rng 1 _ (by simp; omega) (sub m 1)
      have bL := numOf_rng 2 _ (by simp; omega) (sub (m + 1) 2)
      have bM := numOf_rng 4 _ (by simp; omega) (sub (m + 3) 4)
      rw [← fN] at bN
      rw [← fK] at bK
      rw [← fL] at bL
      rw [← fM] at bM
      by_cases hN : rpN (s.extract m 64) + m ≤ 56
      · have h := parse_main s m _ _ _ _ _ w ty v hv hg hs (by omega) (by omega) fN hN fK fL fM fP bK.1 (by have := bK.2; omega) bL.1 (by have := bL.2; omega) bM.1 (by have := bM.2; omega)
        have hR : rpRes s (m : Int) = if formOf (rpK (s.extract m 64)) (rpL (s.extract m 64)) (rpM (s.extract m 64)) (rpP (s.extract m 64)) (m : Int) = s then some (rpK (s.extract m 64), rpL (s.extract m 64), rpM (s.extract m 64), rpP (s.extract m 64)) else none := by
          unfold rpRes
          rw [Int.toNat_natCast]
          by_cases hF : formOf (rpK (s.extract m 64)) (rpL (s.extract m 64)) (rpM (s.extract m 64)) (rpP (s.extract m 64)) (m : Int) = s
          · rw [if_pos hF, if_pos ⟨by omega, by omega, hs, by omega, hF⟩]
          · rw [if_neg hF, if_neg (fun hh => hF hh.2.2.2.2)]
        rw [hR]
        exact h
      · rw [rpRes_no (fun hh => hN (by have := hh.2.2.2.1; rw [Int.toNat_natCast] at this; omega))]
        exact parse_no_part s m _ w ty v hv hg hs (by omega) (by omega) fN (by omega) (by have := bN.2; omega)
    · rw [rpRes_no (fun hh => hs hh.2.2.1)]
      exact parse_no_size s m w ty v hv hg hn hs
  · rw [rpRes_no (fun hh => hn ⟨hh.1, hh.2.1⟩)]
    exact parse_no_width s n w ty v hv hg hn
theorem as_hit_b (e t : Addr) (old : Value) (w : World) (hg : w.cell? ⟨0, 0, none⟩ = some (.iface 177 (.agg #[.pointer (some ⟨2, 91, none⟩)]))) (ht0 : w.cell? t = some old) (hf0 : w.frozen? t = false) (hlt : t.block < w.heap.size) :
    Calls Tryd.prog 99 #[.iface 157 (.pointer (some e)), .iface 159 (.pointer (some t))] w fun ev w' => ev = .returned (.bool true) ∧ Below t.block w w' :=
  (as_hit e t old w hg ht0 hf0).mono fun ev w' h => ⟨h.1, by
    rw [h.2]
    exact (((((Below.refl t.block w).alloc (by omega) _).alloc (by simp; omega) _).alloc (by simp; omega) _).alloc (by simp; omega) _).setCell (Nat.le_refl _) _⟩
theorem as_nil_b (t : Value) (w : World) : Calls Tryd.prog 99 #[.nilIface, t] w fun e w' => e = .returned (.bool false) ∧ Below w.heap.size w w' :=
  (as_nil t w).mono fun e w' h => ⟨h.1, by rw [h.2]; exact Below.refl _ _⟩
theorem RB.past {W w w' : World} (h : RB W w) {B : Nat} (hB : W.heap.size < B) (hb : Below B w w') : RB W w' := by
  have hs := h.size
  have hc : ∀ i, w'.cell? ⟨W.heap.size, i, none⟩ = w.cell? ⟨W.heap.size, i, none⟩ := fun i => hb.cell (p := ⟨W.heap.size, i, none⟩) (by show W.heap.size < _; omega)
  have hf : ∀ i, w'.frozen? ⟨W.heap.size, i, none⟩ = w.frozen? ⟨W.heap.size, i, none⟩ := fun i => hb.frozen (p := ⟨W.heap.size, i, none⟩) (by show W.heap.size < _; omega)
  exact ⟨Nat.le_trans hs hb.size, h.bel.trans (hb.mono (by omega)), (hc _).trans h.c0, (hc _).trans h.c1, (hc _).trans h.c2, (hc _).trans h.c3, (hf _).trans h.f0, (hf _).trans h.f1, (hf _).trans h.f2, (hf _).trans h.f3⟩
set_option maxHeartbeats 16000000 in
theorem readpage_i (s : ByteArray) (n : Int) (w : World) (ty : TypeId) (v : Value) (hv : w.cell? ⟨1, 0, none⟩ = some (.iface ty v)) (h0 : w.cell? ⟨0, 0, none⟩ = some (.iface 177 (.agg #[.pointer (some ⟨2, 91, none⟩)]))) (hg : 1 < w.heap.size) : Calls Tryd.prog 93 #[.string s, .int .i64 n] w fun e w' => e = .returned (rpV (rpRes s n)) ∧ Below w.heap.size w w' := by
  obtain ⟨R, HR⟩ : ∃ R, Hid (R = rpRes s n) := ⟨_, hid0 rfl⟩
  rw [← HR.out]
  have hb0 : ∀ o, Below w.heap.size w (w.alloc o) := fun o => (Below.refl _ _).alloc (Nat.le_refl _) _
  have hva : ∀ o, (w.alloc o).cell? ⟨1, 0, none⟩ = some (.iface ty v) := fun o => (World.cell?_alloc_past _ _ _ (by exact hg)).trans hv
  have HG : Hid (∀ w', Below w.heap.size w w' → w'.cell? ⟨0, 0, none⟩ = some (.iface 177 (.agg #[.pointer (some ⟨2, 91, none⟩)]))) := fun w' hb => (hb.cell (p := ⟨0, 0, none⟩) (by show 0 < _; omega)).trans h0
  have par := fun o => parse_any s n (w.alloc o) ty v (hva o) (by simp; omega)
  rw [← HR.out] at par
  cases R with
  | none =>
    simp only [prV] at par
    go_enter Tryd.func93, Tryd.ntmps93
    go_wp2_with (first | (go_at_call 98; refine (par _).mono ?_; rintro e w2 ⟨⟨E, rfl⟩, hb2⟩; have HB2 := hid0 ((RB.new w _).below hb2); clear hb2) | (go_at_call 99; refine (as_hit_b E ⟨w2.heap.size + 1, 0, none⟩ (.pointer none) _ (HG.out _ ((HB2.out.alloc _).alloc _).bel) (by go_simp) (by go_simp) (by simp)).mono ?_; rintro e w4 ⟨rfl, hb4⟩; have hr4 := ((HB2.out.alloc _).alloc _).past (B := w2.heap.size + 1) (by have := HB2.out.size; omega) hb4; clear hb4; have c0 := hr4.c0; have c1 := hr4.c1; have c2 := hr4.c2; have c3 := hr4.c3; have f0 := hr4.f0; have f1 := hr4.f1; have f2 := hr4.f2; have f3 := hr4.f3; have HR4 := hid0 hr4; clear hr4))
    refine bodyPost_ret (v := .tuple #[pageV 0 0 0 ⟨#[]⟩, .bool false]) (by simp [results, Tryd.results93, go_sem, c0, c1, c2, c3]) rfl ⟨rfl, ?_⟩
    exact (((HR4.out.bel.setCell (Nat.le_refl _) _).setCell (Nat.le_refl _) _).setCell (Nat.le_refl _) _).setCell (Nat.le_refl _) _
  | some x =>
    obtain ⟨k, l, m, p⟩ := x
    simp only [prV] at par
    go_enter Tryd.func93, Tryd.ntmps93
    go_wp2_with (first | (go_at_call 98; refine (par _).mono ?_; rintro e w2 ⟨⟨E, rfl⟩, hb2⟩; have HB2 := hid0 ((RB.new w _).below hb2); clear hb2) | (go_at_call 99; refine (as_nil_b _ _).mono ?_; rintro e w4 ⟨rfl, hb4⟩; have hr4 := ((HB2.out.alloc _).alloc _).below hb4; have hp := ((pg_new w2 w2.heap.size rfl (.int .i64 k) (.int .i64 l) (.int .i64 m) (.string p) _).below ((Below.refl _ _).alloc (Nat.le_refl _) _) (by simp)).below hb4 (by simp <;> omega); clear hb4; have p0 := hp.c0; have p1 := hp.c1; have p2 := hp.c2; have p3 := hp.c3; clear hp; have c0 := hr4.c0; have c1 := hr4.c1; have c2 := hr4.c2; have c3 := hr4.c3; have f0 := hr4.f0; have f1 := hr4.f1; have f2 := hr4.f2; have f3 := hr4.f3; have HR4 := hid0 hr4; clear hr4))
    refine bodyPost_ret (v := .tuple #[pageV k l m p, .bool true]) (by simp [results, Tryd.results93, go_sem, c0, c1, c2, c3]) rfl ⟨rfl, ?_⟩
    exact (((HR4.out.bel.setCell (Nat.le_refl _) _).setCell (Nat.le_refl _) _).setCell (Nat.le_refl _) _).setCell (Nat.le_refl _) _
end Go.Proofs.YtnmaknnnmjfhkaeDoor

namespace Go.Proofs.YtnmaknnnmjfhkaeDoor
open Go.RowKit
set_option maxRecDepth 4000
set_option linter.unusedVariables false
set_option linter.unusedSimpArgs false
set_option maxHeartbeats 16000000
theorem rpage_i (v0 v1 : Value) (x : List Int) (frm size n : Int) (m : Int) (w : World) (hxl : x.length = 64) (hfm : IntKind.i64.wrap (frm + m) = frm + m)
    (HRD : ∀ wx, Below w.heap.size w wx → Calls Tryd.prog 129 #[.agg #[v0, v1], .int .i64 (frm + m)] wx fun e w' => e = .returned (.tuple #[.agg (x.map (Value.int .u8)).toArray, .bool true]) ∧ Below wx.heap.size wx w')
    (ty : TypeId) (v : Value) (hv : w.cell? ⟨1, 0, none⟩ = some (.iface ty v)) (h0 : w.cell? ⟨0, 0, none⟩ = some (.iface 177 (.agg #[.pointer (some ⟨2, 91, none⟩)]))) (hg : 1 < w.heap.size) :
    Calls Tryd.prog 77 #[regV v0 v1 frm size n, .int .i64 m] w fun e w' => e = .returned (rpV (rpRes (strOfNums x) n)) ∧ Below w.heap.size w w' := by
  have hb0 : ∀ o1 o2, Below w.heap.size w ((w.alloc o1).alloc o2) := fun o1 o2 => ((Below.refl _ _).alloc (Nat.le_refl _) _).alloc (by simp) _
  have HRP := hid (fun wx (hb : Below w.heap.size w wx) => readpage_i (strOfNums x) n wx ty v ((hb.cell (p := ⟨1, 0, none⟩) hg).trans hv) ((hb.cell (p := ⟨0, 0, none⟩) (by show 0 < _; omega)).trans h0) (by have := hb.size; omega))
  obtain ⟨k, l, q, p, b, hRR⟩ : ∃ k l q p b, rpV (rpRes (strOfNums x) n) = .tuple #[pageV k l q p, .bool b] := by
    cases rpRes (strOfNums x) n with
    | none => exact ⟨_, _, _, _, _, rfl⟩
    | some y => obtain ⟨k, l, q, p⟩ := y; exact ⟨_, _, _, _, _, rfl⟩
  rw [hRR] at HRP ⊢
  clear hRR hv h0
  have hxm : (x.map (Value.int .u8)).toArray.size = 64 := by simp [hxl]
  have HI64 : Hid ((Tryd.prog.info? 98).map (·.size) = some (x.map (Value.int .u8)).length) := by show _ = _; rw [List.length_map, hxl]; kernel_rfl
  have hmc := fun k wx => meth_cover k v0 v1 wx
  obtain ⟨sx, HSX⟩ : ∃ sx, Hid (sx = strOfNums x) := ⟨_, hid rfl⟩
  rw [← HSX.out] at HRP
  have HRDh := hid HRD
  clear HRD
  go_enter Tryd.func77, Tryd.ntmps77
  go_wp2_with fail
  refine (HRDh.out _ (hb0 _ _)).mono ?_
  rintro e w2 ⟨rfl, hb2⟩
  have HQ2 := hid (((B4.new w (.iface 126 (.agg #[v0, v1])) (.int .i64 frm) (.int .i64 size) (.int .i64 n) 82).alloc (.cells #[.int .i64 0, .int .i64 0, .int .i64 0, .string ByteArray.empty] 42)).below hb2)
  have hr2 := (B4.new (w.alloc (.cells #[.iface 126 (.agg #[v0, v1]), .int .i64 frm, .int .i64 size, .int .i64 n] 82)) (.int .i64 0) (.int .i64 0) (.int .i64 0) (.string ByteArray.empty) 42).below hb2
  rw [World.size_alloc] at hr2
  have HR2 := hid hr2
  have HB2 := hid ((hb0 (.cells #[.iface 126 (.agg #[v0, v1]), .int .i64 frm, .int .i64 size, .int .i64 n] 82) (.cells #[.int .i64 0, .int .i64 0, .int .i64 0, .string ByteArray.empty] 42)).trans (hb2.mono (by simp <;> omega)))
  clear hb2 hmc hr2
  go_wp2_with (first
      | (with_reducible refine at_store 98 _ _ rfl ?_; refine wpList_store_cells rfl 98 _ _ rfl (x.map (Value.int .u8)) (ints_one x) rfl rfl _ _ (by rw [List.length_map, hxl]; kernel_rfl) HI64.out ?_; intro wx hrow hbx hsx; have hcv := hrow.text (P := Tryd.prog) x 0 64 64 hxl (fun i hi => by simp [List.getD, show i < x.length by omega]) 22 5 9 Tryd.underlying22 Tryd.underlying5 Tryd.underlying9; rw [← HSX.out] at hcv; have hcvd := hrow.drew.text (P := Tryd.prog) x 0 64 64 hxl (fun i hi => by simp [List.getD, show i < x.length by omega]) 22 5 9 Tryd.underlying22 Tryd.underlying5 Tryd.underlying9; rw [← HSX.out] at hcvd; have HRX := hid (HR2.out.below hbx); have HQX := hid (HQ2.out.below hbx); have HBX := hid (HB2.out.trans (hbx.mono HB2.out.size)); clear hbx hsx hrow)
      | fail)
  have r0 := HRX.out.c0
  have r1 := HRX.out.c1
  have r2 := HRX.out.c2
  have r3 := HRX.out.c3
  have f0 := HRX.out.f0
  have f1 := HRX.out.f1
  have f2 := HRX.out.f2
  have f3 := HRX.out.f3
  have q3 := HQX.out.c3
  have hcv' : (convert 22 9 (.slice (some ⟨w2.heap.size, 0, none⟩) 64 64)).run Tryd.prog wx.drew = .ok (.string sx) wx.drew := hcvd
  go_region_with (first | (go_at_call 93; refine (HRP.out _ (HBX.out.drew)).mono ?_; rintro e w3 ⟨rfl, hb3⟩; have hr3 := HRX.out.drew.below hb3; have HB3 := hid (HBX.out.drew.trans (hb3.mono HBX.out.drew.size)); have c0 := hr3.c0; have c1 := hr3.c1; have c2 := hr3.c2; have c3 := hr3.c3; have f0 := hr3.f0; have f1 := hr3.f1; have f2 := hr3.f2; have f3 := hr3.f3; clear hb3 hr3))
  all_goals
    go_wp2
    refine bodyPost_ret (v := .tuple #[pageV k l q p, .bool b]) (by simp [results, Tryd.results77, go_sem, c0, c1, c2, c3]) rfl ⟨rfl, ?_⟩
    exact (((HB3.out.setCell (by show _ ≤ w.heap.size + 1; omega) _).setCell (by show _ ≤ w.heap.size + 1; omega) _).setCell (by show _ ≤ w.heap.size + 1; omega) _).setCell (by show _ ≤ w.heap.size + 1; omega) _
end Go.Proofs.YtnmaknnnmjfhkaeDoor
