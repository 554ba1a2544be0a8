import Derived.Test.YtnmaknnnmjfhkacBtF
import Derived.Test.YtnmaknnnmjfhkacPgB
import Derived.Test.YtnmaknnnmjfhkacFbS
import Derived.Test.YtnmaknnnmjfhkacRbI
import Derived.Test.YtnmaknnnmjfhkacVB
namespace Go.Proofs.Ytnmaknnnmjfhkac
open Go.RowKit
set_option maxRecDepth 8000
set_option linter.unusedVariables false
set_option linter.unusedSimpArgs false

theorem own_baseB {w : World} {B B' : Nat} {e : TypeId} {k : Nat} {v : Value} {n : Nat} {xs : List Value} (h : w.ownsRow B e k v n xs) (hb : B' ≤ B) : w.ownsRow B' e k v n xs := ⟨h.1, h.2.imp id (fun ⟨g, cap, cur, h1, h2, r⟩ => ⟨g, cap, cur, h1, Nat.le_trans hb h2, r⟩)⟩
theorem bOut_size (b : List (ByteArray × ByteArray × Bool)) : (bOut b).size ≤ 2460 := by
  unfold bOut
  split
  · rename_i h
    have h1 := batchOk_of h
    have := bForm_size b h1.2
    omega
  · exact Nat.zero_le _
theorem open_rB (a : Option Addr) (n c : Nat) (w : World) (h : Bys w a n) (hn : n ≤ 1048576) (hc : n ≤ c) : Calls Try.prog 34 #[.slice a n c] w fun e w' => e = .returned (.pointer (some ⟨w.heap.size, 0, none⟩)) ∧ (∃ m c', m ≤ n ∧ Rdr w' w.heap.size a m c' 0) ∧ Below w.heap.size w w' := by
  by_cases h2 : n ≤ 2000
  · have h2' : (n : Int) ≤ 2000 := by omega
    go_enter Try.func34, Try.ntmps34
    go_wp2
    go_ret
    exact ⟨rfl, ⟨n, c, Nat.le_refl _, h.rdr (Nat.le_refl _) h2 c _⟩, (Below.refl _ _).alloc (Nat.le_refl _) _⟩
  · have h2' : 2000 < (n : Int) := by omega
    have hc2 : (2000 : Int) ≤ (c : Int) := by omega
    have HR := hid (h.rdr (m := 2000) (by omega) (Nat.le_refl _) c 126)
    obtain ⟨g, o, ha, hx⟩ := h
    obtain rfl : a = some ⟨g, o, none⟩ := ha.resolve_left (by omega)
    go_enter Try.func34, Try.ntmps34
    go_wp2
    go_ret
    refine ⟨rfl, ?_, (Below.refl _ _).alloc (Nat.le_refl _) _⟩
    first | exact ⟨2000, c, by omega, HR.out⟩ | exact ⟨2000, by omega, c, HR.out⟩
set_option maxHeartbeats 4000000 in
theorem dfb_r (a : Option Addr) (n c : Nat) (w : World) (h : Bys w a n) (hn : n ≤ 1048576) (hc : n ≤ c) :
    Calls Try.prog 7 #[.slice a n c] w fun e w' => (∃ v rs, e = .returned v ∧ w'.ownsRow w.heap.size 72 3 v rs.length (chcells rs) ∧ rs.length ≤ 21 ∧ chsLe rs 64000 64000) ∧ Below w.heap.size w w' := by
  go_enter Try.func7, Try.ntmps7
  go_wp2_with fail
  refine (open_rB a n c _ h hn hc).mono ?_
  rintro e w1 ⟨rfl, ⟨n', c', hnn, hr1⟩, hb1⟩
  go_wp2_with fail
  refine (batch_r w.heap.size a n' c' 0 _ hr1 (by omega)).mono ?_
  rintro e w2 ⟨⟨v, rs, rfl, hown, ⟨hl1, hl2⟩, hle⟩, ⟨q, q0, q1, hr2⟩, hg2⟩
  have hR1 := lt_of_cell hr1.pc
  have be2 := hb1.trans (grown_below hg2 hb1.size (fun g e => by cases e; omega))
  obtain ⟨g, cap, rfl, hg1, hg1'⟩ := hown.form (by omega)
  go_wp2_with fail
  refine (pick_r w.heap.size a n' c' q 4 _ hr2 (by omega)).mono ?_
  rintro e w3 ⟨⟨z, rfl, z0, z1⟩, hr3, hg3⟩
  have hown3 := hown.kept hg3 (.inr (fun e => by have e' := Option.some.inj e; have e2 : g = w.heap.size := e'; omega))
  have be3 := be2.trans (grown_below hg3 be2.size (fun g e => by cases e; omega))
  by_cases hz : z = 0
  · subst hz
    go_wp2_with fail
    refine (spoil_r w.heap.size a n' c' (q + 1) rs _ w1.heap.size _ hr3 (by omega) hown3 hl1 hl2 (hle.mono (by omega) (by omega))).mono ?_
    rintro e w4 ⟨⟨v4, rs4, rfl, hown4, hl4, hle4⟩, _, hg4⟩
    have be4 := be3.trans (grown_below hg4 be3.size (fun g e => by cases e; omega))
    have hown5 := own_baseB hown4 be3.size
    go_wp2
    go_ret
    exact ⟨⟨_, _, rfl, hown5, hl4, hle4⟩, be4⟩
  · have hown5 := own_baseB hown3 hb1.size
    go_wp2
    go_ret
    exact ⟨⟨_, _, rfl, hown5, by omega, hle.mono (by omega) (by omega)⟩, be3⟩
theorem own_one (w : World) : Chs (w.alloc (.cells #[.string ⟨#[107]⟩, .string ⟨#[]⟩, .bool false] 72)) (some ⟨w.heap.size, 0, none⟩) [(⟨#[107]⟩, ⟨#[]⟩, false)] := by
  have r := row_new w #[.string ⟨#[107]⟩, .string ⟨#[]⟩, .bool false] 72
  exact .inr ⟨w.heap.size, 0, rfl, by simp, fun i hi => by
    have : i = 0 := by simp at hi; exact hi
    subst this
    exact ⟨r.cell 0 _ rfl, r.cell 1 _ rfl, r.cell 2 _ rfl⟩⟩
theorem bOut_one : (bOut [(⟨#[107]⟩, ⟨#[]⟩, false)]).size ≤ 64 := by
  unfold bOut
  split
  · unfold bForm
    rw [strOfNums_size]
    decide
  · exact Nat.zero_le _
theorem own_chsG {w : World} {B : Nat} {y : Value} {o : List (ByteArray × ByteArray × Bool)} (h : w.ownsRow B 72 3 y o.length (chcells o)) : ∃ a c, y = .slice a o.length c ∧ Chs w a o := owns_chs h
set_option maxHeartbeats 4000000 in
theorem drb_r (a : Option Addr) (n c : Nat) (w : World) (h : Bys w a n) (hn : n ≤ 1048576) (hc : n ≤ c) :
    Calls Try.prog 13 #[.slice a n c] w fun e w' => (∃ t : ByteArray, e = .returned (.string t) ∧ t.size ≤ 1048576) ∧ Below w.heap.size w w' := by
  go_enter Try.func13, Try.ntmps13
  go_wp2_with fail
  refine (open_rB a n c _ h hn hc).mono ?_
  rintro e w1 ⟨rfl, ⟨n', c', hnn, hr1⟩, hb1⟩
  go_wp2_with fail
  refine (dfb_r a n c _ (h.below hb1) hn hc).mono ?_
  rintro e w2 ⟨⟨v, rs, rfl, hown, hl, hle⟩, hb2⟩
  have be2 := hb1.trans (hb2.mono hb1.size)
  have hr2 := hr1.below hb2
  have hR1 := lt_of_cell hr1.pc
  obtain ⟨va, vc, rfl, hch⟩ := own_chsG hown
  clear hown hr1 hb2
  go_wp2_with fail
  refine (formbatch_s va rs vc _ hch (by omega) (fun x hx => ⟨Nat.le_trans (hle x hx).1 (by omega), Nat.le_trans (hle x hx).2 (by omega)⟩)).mono ?_
  rintro e w3 ⟨rfl, hb3⟩
  have hs := bOut_size rs
  obtain ⟨S, e_S⟩ : ∃ S, S = bOut rs := ⟨_, rfl⟩
  rw [← e_S] at hs ⊢
  have be3 := be2.trans (hb3.mono be2.size)
  have hr3 := hr2.below hb3
  clear e_S hch hr2 hb3 be2
  go_wp2_with fail
  refine (pick_r w.heap.size a n' c' 0 2 _ hr3 (by omega)).mono ?_
  rintro e w4 ⟨⟨z, rfl, z0, z1⟩, hr4, hg4⟩
  have be4 := be3.trans (grown_below hg4 be3.size (fun g e => by cases e; omega))
  clear hr3 hg4 be3
  by_cases hz : z = 0
  · subst hz
    go_wp2_with fail
    refine (bend_r w.heap.size a n' c' (0 + 1) S _ hr4 (by omega) (by omega)).mono ?_
    rintro e w5 ⟨⟨t, rfl, ht⟩, _, hg5⟩
    have be5 := be4.trans (grown_below hg5 be4.size (fun g e => by cases e; omega))
    go_wp2
    go_ret
    exact ⟨⟨t, rfl, by omega⟩, be5⟩
  · go_wp2_with fail
    refine (pick_r w.heap.size a n' c' (0 + 1) 12 _ hr4 (by omega)).mono ?_
    rintro e w5 ⟨⟨y, rfl, y0, y1⟩, hr5, hg5⟩
    have be5 := be4.trans (grown_below hg5 be4.size (fun g e => by cases e; omega))
    clear hr4 hg5 be4
    by_cases hy : y = 0
    · subst hy
      have hch := own_one w5
      have hone := bOut_one
      obtain ⟨ONE, e_O⟩ : ∃ x : List (ByteArray × ByteArray × Bool), [(⟨#[107]⟩, ⟨#[]⟩, false)] = x := ⟨_, rfl⟩
      have hol : ONE.length = 1 := by rw [← e_O]; rfl
      have hos : ∀ x ∈ ONE, x.1.size ≤ 1048576 ∧ x.2.1.size ≤ 1048576 := by
        intro x hx
        rw [← e_O] at hx
        simp at hx
        subst hx
        decide
      rw [e_O] at hch hone
      have HFB := hid (formbatch_s (some ⟨w5.heap.size, 0, none⟩) ONE 1 _ hch (by omega) hos)
      rw [hol] at HFB
      have hr6 := hr5.below (below_nw w5 (.cells #[.string ⟨#[107]⟩, .string ⟨#[]⟩, .bool false] 72))
      have be6 := be5.trans ((below_nw w5 (.cells #[.string ⟨#[107]⟩, .string ⟨#[]⟩, .bool false] 72)).mono be5.size)
      clear e_O hol hos hch
      go_wp2_with fail
      refine HFB.out.mono ?_
      rintro e w7 ⟨rfl, hb7⟩
      have hr7 := hr6.below hb7
      have be7 := be6.trans (hb7.mono be6.size)
      clear hr6 hb7 be6 hr5 be5 HFB
      go_wp2_with fail
      refine (pick_r w.heap.size a n' c' (0 + 1 + 1) 2 _ hr7 (by omega)).mono ?_
      rintro e w8 ⟨⟨x, rfl, x0, x1⟩, hr8, hg8⟩
      have be8 := be7.trans (grown_below hg8 be7.size (fun g e => by cases e; omega))
      have hx : IntKind.i64.wrap (20 + x) = 20 + x := wrap_i64_id _ (by omega) (by omega)
      go_wp2_with fail
      refine (many_r _ (20 + x) _ hone (by omega)).mono ?_
      rintro e w9 ⟨⟨t, rfl, ht⟩, hb9⟩
      have be9 := be8.trans (hb9.mono be8.size)
      go_wp2
      go_ret
      exact ⟨⟨t, rfl, by omega⟩, be9⟩
    · go_wp2
      go_ret
      exact ⟨⟨S, rfl, by omega⟩, be5⟩
set_option maxHeartbeats 4000000 in
/-- Two batches that are the same. -/
theorem wbatch_eq (a b : Option Addr) (rs : List (ByteArray × ByteArray × Bool)) (c c' : Nat) (w : World) (h : Chs w a rs) (h' : Chs w b rs) (hl : rs.length ≤ 1048576) :
    Calls Try.prog 12 #[.slice a rs.length c, .slice b rs.length c'] w fun e w' => e = .returned (.bool true) ∧ Below w.heap.size w w' := by
  go_enter Try.func12, Try.ntmps12
  go_wp2
  go_loopw [5] (fun i wr => ∃ k : Nat, k ≤ rs.length ∧ i = .int .i64 k ∧ Below w.heap.size w wr) (fun i _ => rs.length - (intOf i).toNat)
  case atStart => exact ⟨0, Nat.zero_le _, rfl, Below.refl _ _⟩
  case round =>
    obtain ⟨k, hk, rfl, hbel⟩ := hrel
    by_cases hlt : k < rs.length
    · obtain ⟨b1, o1, s0, s1, g2, rfl, hc0, hc1, hc2, HS⟩ := (h.below hbel).at hlt
      obtain ⟨b2, o2, s0x, s1x, g2x, rfl, hd0, hd1, hd2, HS'⟩ := (h'.below hbel).at hlt
      obtain ⟨rfl, rfl, rfl⟩ : s0 = s0x ∧ s1 = s1x ∧ g2 = g2x := by have := HS.out.trans HS'.out.symm; simpa using this
      have hk1 : (k : Int) < (rs.length : Int) := by omega
      have hk0 : (0 : Int) ≤ (k : Int) := by omega
      have hkw : IntKind.i64.wrap ((k : Int) + 1) = (k : Int) + 1 := wrap_i64_id _ (by omega) (by omega)
      clear HS HS'
      go_wp2_with fail
      go_quiet (fail)
      have hbq := below_drewN hbel nq
      go_wp2
      exact ⟨⟨k + 1, by omega, rfl, hbq⟩, by simp [intOf]; omega⟩
    · go_wp2
      go_ret
      exact ⟨rfl, hbel⟩
end Go.Proofs.Ytnmaknnnmjfhkac
