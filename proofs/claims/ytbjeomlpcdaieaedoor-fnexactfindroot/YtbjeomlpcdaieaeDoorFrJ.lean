import Derived.Test.YtbjeomlpcdaieaeDoorFrI
import Derived.Test.YtbjeomlpcdaieaeDoorCv
namespace Go.Proofs.YtbjeomlpcdaieaeDoor
open Go.RowKit
set_option maxRecDepth 4000
set_option linter.unusedVariables false
set_option linter.unusedSimpArgs false
set_option maxHeartbeats 2000000 in
theorem readroot_no (s : ByteArray) (n : Int) (w : World) (k l m : Int) (p : ByteArray) (b : Bool) (HS : ∀ wx, Below w.heap.size w wx → Calls Tryd.prog 93 #[.string s, .int .i64 n] wx fun e w' => e = .returned (.tuple #[pageV k l m p, .bool b]) ∧ Below wx.heap.size wx w') (hps : p.size ≤ 64) (hno : b = false ∨ p.size ≠ 5) (HRO : Hid (rrOf s n = rtZ)) : Calls Tryd.prog 86 #[.string s, .int .i64 n] w fun e w' => e = .returned (rtV (rrOf s n)) ∧ Below w.heap.size w w' := by
  have hb0 : ∀ o, Below w.heap.size w (w.alloc o) := fun o => (Below.refl _ _).alloc (Nat.le_refl _) _
  cases b with
  | false =>
    · clear hno
      go_enter Tryd.func86, Tryd.ntmps86
      go_wp2_with (go_at_call 93; refine (HS _ (hb0 _)).mono ?_; rintro e w2 ⟨rfl, hb2⟩; have HB2 := hid0 ((B4.new w (.int .i64 0) (.int .i64 0) (.int .i64 0) (.int .i64 0) _).below hb2); have HBB := hid0 ((hb0 _).trans (hb2.mono (by simp))); clear hb2; have c0 := fun o => (HB2.out.alloc o).c0; have c1 := fun o => (HB2.out.alloc o).c1; have c2 := fun o => (HB2.out.alloc o).c2; have c3 := fun o => (HB2.out.alloc o).c3; have f0 := fun o => (HB2.out.alloc o).f0; have f1 := fun o => (HB2.out.alloc o).f1; have f2 := fun o => (HB2.out.alloc o).f2; have f3 := fun o => (HB2.out.alloc o).f3)
      refine bodyPost_ret (v := rootV 0 0 0 0) (by simp [results, Tryd.results86, go_sem, c0, c1, c2, c3]) rfl ⟨by rw [HRO.out]; rfl, ?_⟩
      exact ((((HBB.out.alloc HBB.out.size _).setCell (Nat.le_refl _) _).setCell (Nat.le_refl _) _).setCell (Nat.le_refl _) _).setCell (Nat.le_refl _) _
  | true =>
    · have h5' : ((p.size : Int) != 5) = true := by
        have h := hno.resolve_left (by simp)
        simp
        omega
      clear hno
      go_enter Tryd.func86, Tryd.ntmps86
      go_wp2_with (go_at_call 93; refine (HS _ (hb0 _)).mono ?_; rintro e w2 ⟨rfl, hb2⟩; have HB2 := hid0 ((B4.new w (.int .i64 0) (.int .i64 0) (.int .i64 0) (.int .i64 0) _).below hb2); have HBB := hid0 ((hb0 _).trans (hb2.mono (by simp))); clear hb2; have c0 := fun o => (HB2.out.alloc o).c0; have c1 := fun o => (HB2.out.alloc o).c1; have c2 := fun o => (HB2.out.alloc o).c2; have c3 := fun o => (HB2.out.alloc o).c3; have f0 := fun o => (HB2.out.alloc o).f0; have f1 := fun o => (HB2.out.alloc o).f1; have f2 := fun o => (HB2.out.alloc o).f2; have f3 := fun o => (HB2.out.alloc o).f3)
      refine bodyPost_ret (v := rootV 0 0 0 0) (by simp [results, Tryd.results86, go_sem, c0, c1, c2, c3]) rfl ⟨by rw [HRO.out]; rfl, ?_⟩
      exact ((((HBB.out.alloc HBB.out.size _).setCell (Nat.le_refl _) _).setCell (Nat.le_refl _) _).setCell (Nat.le_refl _) _).setCell (Nat.le_refl _) _
theorem readroot_i (s : ByteArray) (n : Int) (w : World) (ty : TypeId) (v : Value) (hv : w.cell? ⟨1, 0, none⟩ = some (.iface ty v)) (h0 : w.cell? ⟨0, 0, none⟩ = some (.iface 177 (.agg #[.pointer (some ⟨2, 91, none⟩)]))) (hg : 1 < w.heap.size) : Calls Tryd.prog 86 #[.string s, .int .i64 n] w fun e w' => e = .returned (rtV (rrOf s n)) ∧ Below w.heap.size w w' := by
  have HS := fun wx (hb : Below w.heap.size w wx) => readpage_i s n wx ty v ((hb.cell (p := ⟨1, 0, none⟩) hg).trans hv) ((hb.cell (p := ⟨0, 0, none⟩) (by show 0 < _; omega)).trans h0) (by have := hb.size; omega)
  cases hR : rpRes s n with
  | none =>
    rw [hR] at HS
    exact readroot_no s n w 0 0 0 ⟨#[]⟩ false HS (by decide) (.inl rfl) (by show _ = _; unfold rrOf; rw [hR])
  | some x =>
    obtain ⟨k, l, m, p⟩ := x
    rw [hR] at HS
    by_cases h5 : p.size = 5
    · exact readroot_yes s n w k l m p hR HS h5
    · exact readroot_no s n w k l m p true HS (rpRes_some hR).2.2.2.2.2.2 (.inr h5) (by show _ = _; unfold rrOf; rw [hR]; simp [h5])
theorem sector_i (x : RtT) (w : World) (h : 0 ≤ x.1) : Calls Tryd.prog 87 #[rtV x] w fun e w' => e = .returned (.int .i64 (x.1 % 2)) ∧ Below w.heap.size w w' := by
  obtain ⟨t, a, b, c⟩ := x
  go_enter Tryd.func87, Tryd.ntmps87
  go_wp2
  go_ret
  refine ⟨?_, (Below.refl _ _).alloc (Nat.le_refl _) _⟩
  have : t.tmod 2 = t % 2 := Int.tmod_eq_emod_of_nonneg h
  first | rfl | simp [this]
theorem rr_root (s : ByteArray) (a n : Int) (ha : a = 0 ∨ a = 1) : (if (rrOf s n).1 % 2 = a then rrOf s n else rtZ) = (rootOf s a n).getD rtZ := by
  unfold rrOf rootOf
  cases rpRes s n with
  | none => exact ite_self _
  | some x =>
    obtain ⟨k, l, m, p⟩ := x
    by_cases h1 : p.size = 5 ∧ rtForm m (ptH p) (ptF p) l n = s
    · by_cases h2 : m % 2 = a
      · simp [h1.1, h1.2, h2]
      · simp [h1.1, h1.2, h2]
    · simp only [if_neg h1]
      have h3 : ¬ (p.size = 5 ∧ rtForm m (ptH p) (ptF p) l n = s ∧ m % 2 = a) := fun h => h1 ⟨h.1, h.2.1⟩
      rw [if_neg h3]
      exact ite_self _
theorem rr_pos (s : ByteArray) (n : Int) : 0 ≤ (rrOf s n).1 := by
  unfold rrOf
  cases h : rpRes s n with
  | none => simp [rtZ]
  | some x =>
    obtain ⟨k, l, m, p⟩ := x
    have := (rpRes_some h).2.2.1
    show 0 ≤ (if p.size = 5 ∧ rtForm m (ptH p) (ptF p) l n = s then (m, ptH p, ptF p, l) else rtZ).1
    split
    · show 0 ≤ m; omega
    · simp [rtZ]
end Go.Proofs.YtbjeomlpcdaieaeDoor
