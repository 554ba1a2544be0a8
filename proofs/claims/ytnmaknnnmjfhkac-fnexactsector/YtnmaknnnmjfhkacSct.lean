import Derived.Test.YtnmaknnnmjfhkacSyn
namespace Go.Proofs.Ytnmaknnnmjfhkac
open Go.RowKit
set_option linter.unusedVariables false

theorem fld0 (a a' : Option Addr) (n c n' c' : Nat) (w : World) : Sem.run Try.prog (Instr.field 44 (.agg #[.slice a n c, .slice a' n' c']) 0) w = .ok (.slice a n c) w := by kernel_rfl
/-- What a sector reads as. -/
def sctOf (ss : List ByteArray) (ws : List (Int × ByteArray)) (n : Int) : ByteArray := if diskOk ss ws = true ∧ 0 ≤ n ∧ n < (ss.length : Int) then (syncs ws ss).getD n.toNat ByteArray.empty else ByteArray.empty

set_option maxRecDepth 100000 in
set_option maxHeartbeats 1000000 in
theorem sct_s (a : Option Addr) (ss : List ByteArray) (c : Nat) (a' : Option Addr) (ws : List (Int × ByteArray)) (c' : Nat) (n : Int) (w : World) (h : Strs w a ss) (h' : Wrs w a' ws) (hl : ss.length ≤ 1048576) (hl' : ws.length ≤ 1048576) (hs : ∀ s ∈ ss, s.size ≤ 1048576) (hs' : ∀ x ∈ ws, x.2.size ≤ 1048576) :
    Calls Try.prog 21 #[diskV a ss.length c a' ws.length c', .int .i64 n] w fun e w' => e = .returned (.string (sctOf ss ws n)) ∧ Below w.heap.size w w' := by
  have hb0 : ∀ o1, Below w.heap.size w (w.alloc o1) := fun o1 => ((Below.refl _ _).alloc (Nat.le_refl _) _)
  obtain ⟨RES, HRES⟩ : ∃ RES, Hid (RES = sctOf ss ws n) := ⟨_, hid rfl⟩
  rw [← HRES.out]
  cases hok : diskOk ss ws with
  | false =>
    have he : Hid (RES = ByteArray.empty) := by show _ = _; rw [HRES.out]; simp [sctOf, hok]
    go_enter Try.func21, Try.ntmps21
    go_wp2_with fail
    refine (valid_s a ss c a' ws c' _ (h.below (hb0 _)) (h'.below (hb0 _)) hl hl' hs hs').mono ?_
    rw [hok]
    rintro e w1 ⟨rfl, hb1⟩
    have HB1 := hid ((hb0 _).trans (hb1.mono (by simp)))
    clear hb1
    go_wp2
    go_ret
    exact ⟨by rw [he.out]; rfl, HB1.out⟩
  | true =>
    obtain ⟨⟨hn1, hn2, hn3⟩, h64, hw⟩ := diskOk_of hok
    by_cases hn : 0 ≤ n ∧ n < (ss.length : Int)
    · obtain ⟨m, rfl⟩ : ∃ m : Nat, n = (m : Int) := ⟨n.toNat, by omega⟩
      have he : Hid (RES = (syncs ws ss).getD m ByteArray.empty) := by show _ = _; rw [HRES.out]; unfold sctOf; rw [if_pos ⟨hok, hn⟩, Int.toNat_natCast]
      have hn0 := hn.1
      have hn4 := hn.2
      go_enter Try.func21, Try.ntmps21
      go_wp2_with fail
      refine (valid_s a ss c a' ws c' _ (h.below (hb0 _)) (h'.below (hb0 _)) hl hl' hs hs').mono ?_
      rw [hok]
      rintro e w1 ⟨rfl, hb1⟩
      have HX := hid ((Cx.new w (.slice a ss.length c) (.slice a' ws.length c') 44).below hb1)
      have HB1 := hid ((hb0 (.cells #[.slice a ss.length c, .slice a' ws.length c'] 44)).trans (hb1.mono (by simp)))
      clear hb1
      have q0 := HX.out.c0
      have q1 := HX.out.c1
      go_wp2_with fail
      refine (copy_s a ss c a' ws c' _ (h.below HB1.out) (h'.below HB1.out) hn2 hn3).mono ?_
      rintro e w2 ⟨g, c1, g', c1', rfl, hod, hg, hg', hb2⟩
      have HB2 := hid (Below.then HB1.out (Nat.le_refl _) hb2)
      have hlen : ss.length ≠ 0 := by omega
      have hg1 : w1.heap.size ≤ g := hg g (by unfold blk; rw [if_neg hlen]; rfl)
      have hrs : Row w2 g (ss.map Value.string) := by
        rcases hod.s with e | ⟨b, e, hr⟩
        · exact absurd (congrArg List.length e) (by rw [List.length_map, List.length_nil]; omega)
        · cases e; exact hr
      have hne : wcells ws ≠ [] → g' ≠ g := fun hc => by
        have hl : ws.length ≠ 0 := fun e => hc (by rw [List.eq_nil_of_length_eq_zero e]; rfl)
        rcases hod.ne with e | e | e
        · unfold blk at e; rw [if_neg hlen] at e; exact absurd e (by simp)
        · unfold blk at e; rw [if_neg hl] at e; exact absurd e (by simp)
        · unfold blk at e; rw [if_neg hlen, if_neg hl] at e; exact fun e2 => e (by rw [e2])
      have HY := hid (sync_s g g' ss c1 ws c1' w2 hrs hod.p hne hn2 hn3 (fun x hx => by have := of_decide_eq_true (hw x hx); omega))
      have hwg : w.heap.size ≤ g := Nat.le_trans HB1.out.size hg1
      clear q0 q1 hod hg hg' hb2 hrs hne
      go_wp2_with fail
      refine HY.out.mono ?_
      rintro e w3 ⟨x, rfl, hx1, hx2, hr3, hgr⟩
      have HB3 := hid (HB2.out.trans (grown_below hgr HB2.out.size (fun k hk => by cases hk; exact hwg)))
      have hcm := hr3.cell m (.string RES) (by rw [he.out]; simp [List.getD, syncs_length, show m < ss.length by omega])
      have HB4 := hid (Below.then HB3.out (Nat.le_refl _) (below_new w3 (.cells #[.slice (some ⟨g, 0, none⟩) ss.length c1, .slice (some ⟨x, 0, none⟩) 0 0] 44)))
      have hl3 := hr3.lt
      clear hr3 hgr
      unfold diskV
      have hf0 := fld0 (some ⟨g, 0, none⟩) (some ⟨x, 0, none⟩) ss.length c1 0 0 w3
      have hm1 : m < ss.length := by omega
      go_wp2
      go_ret
      exact ⟨rfl, HB3.out⟩
    · have he : Hid (RES = ByteArray.empty) := by show _ = _; rw [HRES.out]; unfold sctOf; rw [if_neg (fun x => hn x.2)]
      have hN : n < 0 ∨ (0 ≤ n ∧ (ss.length : Int) ≤ n) := by omega
      clear hn
      rcases hN with hN | ⟨hN0, hN⟩
      all_goals
        go_enter Try.func21, Try.ntmps21
        go_wp2_with fail
        refine (valid_s a ss c a' ws c' _ (h.below (hb0 _)) (h'.below (hb0 _)) hl hl' hs hs').mono ?_
        rw [hok]
        rintro e w1 ⟨rfl, hb1⟩
        have HX := hid ((Cx.new w (.slice a ss.length c) (.slice a' ws.length c') 44).below hb1)
        have HB1 := hid ((hb0 (.cells #[.slice a ss.length c, .slice a' ws.length c'] 44)).trans (hb1.mono (by simp)))
        clear hb1
        have q0 := HX.out.c0
        have q1 := HX.out.c1
        go_wp2
        go_ret
        exact ⟨by rw [he.out]; rfl, HB1.out⟩
end Go.Proofs.Ytnmaknnnmjfhkac
