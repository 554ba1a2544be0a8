import Derived.Test.YtnmaknnnmjfhkadPfP
import Derived.Test.YtnmaknnnmjfhkadPL
namespace Go.Proofs.Ytnmaknnnmjfhkad
open Go.RowKit
set_option linter.unusedVariables false
set_option linter.unusedSimpArgs false

def cvs : List (Int × List Int) → List (List Int) → List (List Int)
  | [], ps => ps
  | x :: r, ps => cvs r (ps.set x.1.toNat x.2)
theorem cvs_length : ∀ (hs : List (Int × List Int)) (ps : List (List Int)), (cvs hs ps).length = ps.length
  | [], _ => rfl
  | x :: r, ps => by rw [cvs, cvs_length r]; simp
theorem cvs_set (ws : List (Int × ByteArray)) : ∀ (ss : List ByteArray), cvs (hsOf ws) (ss.map nums) = (syncs ws ss).map nums := by
  induction ws with
  | nil => intro ss; rfl
  | cons x r ih =>
    intro ss
    have := ih (ss.set x.1.toNat x.2)
    rw [List.map_set] at this
    exact this
theorem DV.lay {w w' : World} {base X g n : Nat} {v : Value} {ps ps' : List (List Int)} {hs : List (Int × List Int)} (h : DV w base X g n v ps hs) (hg : w.grownBy w' (some g)) (hp : PR w' g ps') : DV w' base X g n v ps' hs :=
  ⟨h.rx.grown hg (fun e => h.xg (by injection e)), hp, h.own.kept hg (.inr h.ng), h.nx, h.ng, h.xg, h.bx, h.bg⟩

set_option maxRecDepth 100000 in
set_option maxHeartbeats 2000000 in
theorem sync_d (base X g n : Nat) (v : Value) (ps : List (List Int)) (hs : List (Int × List Int)) (w : World) (h : DV w base X g n v ps hs) (hn : ps.length = n) (hn2 : n ≤ 200) (hl : hs.length ≤ 300) (h64 : ∀ p ∈ hs, p.2.length = 64) (hat : ∀ p ∈ hs, 0 ≤ p.1 ∧ p.1 < (n : Int)) (hbw : base ≤ w.heap.size) :
    Calls Try.prog 134 #[.pointer (some ⟨X, 0, none⟩)] w fun e w' => (∃ x, e = .returned x) ∧ DV w' base X g n (.slice none 0 0) (cvs hs ps) [] ∧ Below base w w' := by
  obtain ⟨RES, HRES⟩ : ∃ RES, Hid (RES = cvs hs ps) := ⟨_, hid rfl⟩
  rw [← HRES.out]
  obtain ⟨a2, c2, hv, ho2⟩ : ∃ a2 c2, v = .slice a2 hs.length c2 ∧ (hs = [] ∨ ∃ g2, a2 = some ⟨g2, 0, none⟩ ∧ v.ownBlock = some g2) := by
    rcases owns_forms h.own with ⟨e, h0⟩ | ⟨g2, cap, e, h1, h2, hr⟩
    · exact ⟨none, 0, by rw [e, h0], .inl (List.eq_nil_of_length_eq_zero h0)⟩
    · exact ⟨_, cap, e, .inr ⟨g2, rfl, by rw [e]; rfl⟩⟩
  have q1 := h.rx.cell 1 _ rfl
  rw [hv] at q1
  go_enter Try.func134, Try.ntmps134
  go_wp2
  have HD := hid h
  have HH64 := hid h64
  have HAT := hid hat
  clear h h64 hat q1
  go_loopw [3, 9] (fun _ i wr => ∃ (k : Nat) (qs : List (List Int)), k ≤ hs.length ∧ i = .int .i64 k ∧ qs.length = n ∧ Hid (cvs (hs.drop k) qs = RES) ∧ DV wr base X g n v qs hs ∧ Below base w wr) (fun _ i _ => hs.length - (intOf i).toNat)
  case atStart => exact ⟨0, ps, Nat.zero_le _, rfl, hn, by show _ = _; rw [List.drop_zero, HRES.out], HD.out, Below.refl _ _⟩
  case round =>
    clear HD
    obtain ⟨k, qs, hk, rfl, hql, HK, hst, hbel⟩ := hrel
    by_cases hlt : k < hs.length
    · obtain ⟨b, hb2, hrow0⟩ : ∃ b, a2 = some ⟨b, 0, none⟩ ∧ Row wr b (hcells hs) := by
        rcases owns_forms hst.own with ⟨e, h0⟩ | ⟨g2, cap, e, h1, h2, hr⟩
        · omega
        · rw [hv] at e
          injection e with e1 e2 e3
          exact ⟨g2, e1, hr⟩
      subst hb2
      obtain ⟨b', o, m0, x, he, hlb, hrg, HX⟩ := (hrow0.hld HH64.out).at (k := k) hlt
      obtain ⟨rfl, rfl⟩ : b = b' ∧ o = 0 := by cases he; exact ⟨rfl, rfl⟩
      clear he hrow0
      rw [Nat.zero_add] at hrg
      have hmem : Hid ((m0, x) ∈ hs) := by show _ ∈ _; rw [HX.out]; simp [List.getD, hlt]
      have hxl : x.length = 64 := HH64.out (m0, x) hmem.out
      obtain ⟨m, rfl, hm⟩ : ∃ m : Nat, m0 = (m : Int) ∧ m < n := by
        have := HAT.out (m0, x) hmem.out
        exact ⟨m0.toNat, by simp at this; omega, by simp at this; omega⟩
      have hxm : (Value.int .i64 (m : Int) :: x.map (Value.int .u8)).length = 65 := by simp [hxl]
      have HI65 : Hid ((Try.prog.info? 142).map (·.size) = some (Value.int .i64 (m : Int) :: x.map (Value.int .u8)).length) := by rw [hxm]; show _ = _; kernel_rfl
      have HXM := hid hxm.symm
      have hzh := zeroHeld
      have HSR := hid hst
      clear hxm hst
      go_wp2_with (first | (with_reducible refine at_load 142 _ rfl ?_; refine wpList_load_mid rfl 142 _ rfl b (k * 65) rfl (Value.int .i64 (m : Int) :: x.map (Value.int .u8)) _ hrg Try.underlying142 rfl HI65.out ?_) | (with_reducible refine at_load 142 _ rfl ?_; refine wpList_load_mid rfl 142 _ rfl wr.heap.size 0 rfl (Value.int .i64 (m : Int) :: x.map (Value.int .u8)) _ hrow.range Try.underlying142 rfl HI65.out ?_) | (with_reducible refine at_store 142 _ _ rfl ?_; refine wpList_store_cells rfl 142 _ _ rfl (Value.int .i64 (m : Int) :: x.map (Value.int .u8)) (held_one (m : Int) x) rfl rfl _ _ (by rw [← HXM.out]; kernel_rfl) HI65.out ?_; intro wx hrow hbx hsx) | (go_at_call 84; refine (lay_i X g n n (.slice none 0 0) qs m x 64 _ ((HSR.out.below hbx).rx.cell 0 _ rfl) HSR.out.xg (HSR.out.below hbx).pr hql hm hn2 (Nat.le_refl _) hxl (Nat.le_refl _)).mono ?_; rintro e w4 ⟨rfl, hpr4, hgr⟩))
      have HST' := hid ((HSR.out.below hbx).lay hgr hpr4)
      have HBE' := hid ((hbel.trans (hbx.mono (Nat.le_trans hbw hbel.size))).trans (grown_below hgr (Nat.le_trans hbw (Nat.le_trans hbel.size hbx.size)) (fun k hk => by cases hk; exact HSR.out.bg)))
      have HK' : Hid (cvs (hs.drop (k + 1)) (qs.set m (torn 64 x (qs.getD m []))) = RES) := by
        show _ = _
        rw [torn_all x _ hxl (getD_len HSR.out.pr.len (by omega)), ← HK.out, drop_at hs k (0, []) hlt, ← HX.out, cvs, Int.toNat_natCast]
      clear hgr hpr4 hbx hrow hrg hsx
      go_wp2
      go_roundw
      case rel => exact ⟨k + 1, _, by omega, by go_num, by simp [hql], HK', HST'.out, HBE'.out⟩
      case measure => simp [intOf]; omega
    · have hres : Hid (qs = RES) := by
        have := HK.out
        rw [List.drop_of_length_le (by omega)] at this
        exact this
      rw [hres.out] at hst
      have HSR := hid hst
      have q1 := hst.rx.cell 1 _ rfl
      have f1 := hst.rx.froz 1 (by simp)
      clear hst
      go_wp2
      go_end0
      refine ⟨⟨_, rfl⟩, ⟨HSR.out.rx.set 1 (by simp) _, HSR.out.pr.other _ HSR.out.xg _, World.ownsRow_nil _ _ _ _, by simp [Value.ownBlock], by simp [Value.ownBlock], HSR.out.xg, HSR.out.bx, HSR.out.bg⟩, hbel.setCell HSR.out.bx _⟩
end Go.Proofs.Ytnmaknnnmjfhkad
