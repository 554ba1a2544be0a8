import Derived.Test.YtnmaknnnmjfhkadPm
namespace Go.Proofs.Ytnmaknnnmjfhkad
open Go.RowKit
set_option maxRecDepth 4000
set_option linter.unusedVariables false
set_option linter.unusedSimpArgs false
/-- A reader that has gone on by at most so much. -/
def RdTo (W : World) (R : Nat) (a : Option Addr) (n c : Nat) (p : Int) (d : Int) (w : World) : Prop := (∃ q, p ≤ q ∧ q ≤ p + d ∧ Rdr w R a n c q) ∧ W.grownBy w (some R)
theorem ext1 (t b : ByteArray) {k : Int} (h : (t.size : Int) + k ≤ 4) : ((t ++ b.extract 0 1).size : Int) + (k - 1) ≤ 4 := by
  rw [ByteArray.size_append]
  have : (b.extract 0 1).size ≤ 1 := by simp only [ByteArray.size_extract]; omega
  omega
set_option maxHeartbeats 2000000 in
theorem text_r (R : Nat) (a : Option Addr) (n c : Nat) (p : Int) (w : World) (h : Rdr w R a n c p) (hp : p < 99999000) : Calls Try.prog 115 #[.pointer (some ⟨R, 0, none⟩)] w fun e w' => (∃ t : ByteArray, e = .returned (.string t) ∧ t.size ≤ 64000) ∧ RdTo w R a n c p 10 w' := by
  have hR := lt_of_cell h.pc
  have p0 := h.p0
  go_enter Try.func115, Try.ntmps115
  go_wp2_with fail
  refine (pick_r R a n c p 8 _ h (by omega)).mono ?_
  rintro e w1 ⟨⟨v, rfl, v0, v1⟩, hr, hg⟩
  by_cases e0 : v = 0
  · subst e0
    go_wp2
    go_ret
    exact ⟨⟨_, rfl, by decide⟩, ⟨p + 1, by omega, by omega, hr⟩, hg⟩
  by_cases e1 : v = 1
  · subst e1
    go_wp2
    go_ret
    exact ⟨⟨_, rfl, by decide⟩, ⟨p + 1, by omega, by omega, hr⟩, hg⟩
  by_cases e2 : v = 2
  · subst e2
    go_wp2_with fail
    refine (pick_r R a n c (p + 1) 21 _ hr (by omega)).mono ?_
    rintro e w2 ⟨⟨u, rfl, u0, u1⟩, hr2, hg2⟩
    have hu : IntKind.i64.wrap (5 + u) = 5 + u := wrap_i64_id _ (by omega) (by omega)
    go_wp2_with fail
    refine (many_r _ (5 + u) _ (by decide) (by omega)).mono ?_
    rintro e w3 ⟨⟨t, rfl, ht⟩, hb3⟩
    go_wp2
    go_ret
    exact ⟨⟨t, rfl, ht⟩, ⟨p + 1 + 1, by omega, by omega, hr2.below hb3⟩, grown_trans (grown_trans hg hg2) (grown_of_below _ hb3)⟩
  by_cases e3 : v = 3
  · subst e3
    go_wp2
    go_ret
    exact ⟨⟨_, rfl, by decide⟩, ⟨p + 1, by omega, by omega, hr⟩, hg⟩
  go_wp2_with fail
  refine (pick_r R a n c (p + 1) 4 _ hr (by omega)).mono ?_
  rintro e w2 ⟨⟨u, rfl, u0, u1⟩, hr2, hg2⟩
  have hu : IntKind.i64.wrap (1 + u) = 1 + u := wrap_i64_id _ (by omega) (by omega)
  have HR2 := hid hr2
  have HG2 := hid (grown_trans hg hg2)
  clear hr hg hr2 hg2 h
  go_wp2
  go_loopw [3, 4] (fun ov nv wr => ∃ (t : ByteArray) (k q : Int), ov = .string t ∧ nv = .int .i64 k ∧ 0 ≤ k ∧ k ≤ 4 ∧ (t.size : Int) + k ≤ 4 ∧ p ≤ q ∧ q + k ≤ p + 6 ∧ Rdr wr R a n c q ∧ w.grownBy wr (some R)) (fun _ nv _ => (intOf nv).toNat)
  case atStart => exact ⟨⟨#[]⟩, 1 + u, p + 1 + 1, rfl, rfl, by omega, by omega, by show (0 : Int) + (1 + u) ≤ 4; omega, by omega, by omega, HR2.out, HG2.out⟩
  case round =>
    obtain ⟨t, k, q, rfl, rfl, k0, k1, htk, q0, q1, hrd, hgr⟩ := hrel
    by_cases hk : 0 < k
    · have HG := hid hgr
      clear hgr
      go_wp2_with fail
      refine (pick_r R a n c q 4 _ hrd (by omega)).mono ?_
      rintro e w3 ⟨⟨x, rfl, x0, x1⟩, hr3, hg3⟩
      have HR3 := hid hr3
      have HG3 := hid (grown_trans HG.out hg3)
      clear hr3 hg3 hrd HG
      have hkw : IntKind.i64.wrap (k - 1) = k - 1 := wrap_i64_id _ (by omega) (by omega)
      have hts : t.size ≤ 4 := by omega
      have z1 : ¬ (9223372036854775807 < t.size + 1) := by omega
      have hx : x = 0 ∨ x = 1 ∨ x = 2 ∨ x = 3 := by omega
      clear x0 x1
      rcases hx with rfl | rfl | rfl | rfl
      all_goals go_wp2
      all_goals go_roundw
      all_goals first
        | exact ⟨_, k - 1, q + 1, rfl, rfl, by omega, by omega, ext1 _ _ (by omega), by omega, by omega, HR3.out, HG3.out⟩
        | (simp [intOf]; omega)
    · go_wp2
      go_ret
      exact ⟨⟨t, rfl, by omega⟩, ⟨q, by omega, by omega, hrd⟩, hgr⟩
end Go.Proofs.Ytnmaknnnmjfhkad
