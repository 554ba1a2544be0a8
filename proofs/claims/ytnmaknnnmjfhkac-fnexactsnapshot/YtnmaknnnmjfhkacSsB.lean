import Derived.Test.YtnmaknnnmjfhkacMkCH
import Derived.Test.YtnmaknnnmjfhkacSsA
namespace Go.Proofs.Ytnmaknnnmjfhkac
open Go.RowKit
set_option maxRecDepth 4000
set_option linter.unusedVariables false
set_option linter.unusedSimpArgs false

set_option maxHeartbeats 2000000 in
theorem eq_ss (a b : Option Addr) (bss : List (List Ch)) (c c' : Nat) (w : World) (h : Bts w a bss) (h' : Bts w b bss) (hl : bss.length ≤ 5) (hm : ∀ x ∈ bss, x.length ≤ 1048576) :
    Calls Try.prog 29 #[.slice a bss.length c, .slice b bss.length c'] w fun e w' => e = .returned (.bool true) ∧ Below w.heap.size w w' := by
  have HA := hid h
  have HB := hid h'
  clear h h'
  go_enter Try.func29, Try.ntmps29
  go_wp2
  go_loopw [5] (fun i wr => ∃ k : Nat, k ≤ bss.length ∧ i = .int .i64 (k : Int) ∧ Below w.heap.size w wr) (fun i _ => bss.length - (intOf i).toNat)
  case atStart => exact ⟨0, Nat.zero_le _, rfl, Below.refl _ _⟩
  case round =>
    obtain ⟨k, hk, rfl, hbel⟩ := hrel
    by_cases hlt : k < bss.length
    · obtain ⟨g, p, cc, rfl, hg, hc, hch⟩ := (HA.out.below hbel).at hlt
      obtain ⟨g', p', cc', rfl, hg', hc', hch'⟩ := (HB.out.below hbel).at hlt
      have hlt' : (k : Int) < (bss.length : Int) := by omega
      have hk0 : (0 : Int) ≤ (k : Int) := by omega
      have hml := hm (bss.getD k []) (by simp [List.getD, hlt])
      obtain ⟨x, hx⟩ : ∃ x, x = bss.getD k [] := ⟨_, rfl⟩
      rw [← hx] at hc hch hc' hch' hml
      have HC := hid hch
      have HC' := hid hch'
      have HBL := hid hbel
      have HE := hid (fun w' h1 h2 => eq_chs p p' x cc cc' w' h1 h2 hml)
      clear hch hch' hbel hx
      go_wp2_with fail
      go_region_held3 (fun w' => w'.cell? ⟨g, k, none⟩ = some (.slice p x.length cc) ∧ w'.cell? ⟨g', k, none⟩ = some (.slice p' x.length cc'))
        (first | assumption | exact ⟨hc, hc'⟩ | exact ⟨(hb3.cell (p := ⟨g, k, none⟩) hg).trans hc, (hb3.cell (p := ⟨g', k, none⟩) hg').trans hc'⟩)
        (first | (go_at_call 70; refine (HE.out _ (HC.out.below (Below.refl _ _).drew) (HC'.out.below (Below.refl _ _).drew)).mono ?_; rintro e w3 ⟨rfl, hb3⟩))
      have HB3 := hid (HBL.out.trans ((((Below.refl _ _).drew).trans hb3).mono HBL.out.size))
      clear hb3
      go_wp2
      exact ⟨⟨k + 1, by omega, by go_num, HB3.out⟩, by simp [intOf]; omega⟩
    · go_wp2
      go_ret
      exact ⟨rfl, hbel⟩

set_option maxHeartbeats 2000000 in
theorem mark_ss (base g n c k : Nat) (ps : Nat → Option Addr) (cs ns : Nat → Nat) (bs : Nat → List Ch) (w : World) (h : Bk w base g n ps cs ns bs) (hk : 0 < k) (hk1 : k ≤ 1000) (hn : n ≤ 5) (hns : ∀ i, i < n → ns i ≤ 20) (hb : base ≤ w.heap.size) :
    Calls Try.prog 32 #[.slice (some ⟨g, 0, none⟩) n c, .int .i64 (k : Int)] w fun e w' => e = .returned (.int .i64 (mks k ns n : Int)) ∧ Bk w' base g n ps cs ns (mbs k ns bs n) ∧ Below base w w' := by
  have h0 : Bk w base g n ps cs ns (mbs k ns bs 0) := by
    have : mbs k ns bs 0 = bs := by funext i; simp [mbs]
    rw [this]; exact h
  have HMK := hid (mks_le k ns n hns)
  clear h
  go_enter Try.func32, Try.ntmps32
  go_wp2
  go_loopw [1, 5] (fun x i wr => ∃ j : Nat, j ≤ n ∧ i = .int .i64 (j : Int) ∧ x = .int .i64 (mks k ns j : Int) ∧ Bk wr base g n ps cs ns (mbs k ns bs j) ∧ Below base w wr) (fun _ i _ => n - (intOf i).toNat)
  case atStart => exact ⟨0, Nat.zero_le _, rfl, rfl, h0, Below.refl _ _⟩
  case round =>
    clear h0
    obtain ⟨j, hj, rfl, rfl, hbk, hbel⟩ := hrel
    have HBK := hid hbk
    have HBL := hid hbel
    by_cases hlt : j < n
    · have hlt' : (j : Int) < (n : Int) := by omega
      have hj0 : (0 : Int) ≤ (j : Int) := by omega
      have hc := hbk.cell j hlt
      have hg := hbk.lt
      have hmj := HMK.out j hj
      have hnj := hns j hlt
      have hlen := hbk.len j hlt
      have HM := hid (fun w' h1 => mark_chs (ps j) (mbs k ns bs j j) (cs j) (mks k ns j) w' h1 (by omega) (by omega))
      rw [hlen] at HM
      have HS : Hid (mks k ns (j + 1) = mks k ns j + 3 * ns j) := hid rfl
      rw [← HS.out] at HM
      obtain ⟨m, HMM⟩ : ∃ m, Hid (m = mks k ns j) := ⟨_, hid rfl⟩
      obtain ⟨m2, HMM2⟩ : ∃ m2, Hid (m2 = mks k ns (j + 1)) := ⟨_, hid rfl⟩
      obtain ⟨nj, HNJ⟩ : ∃ nj, Hid (nj = ns j) := ⟨_, hid rfl⟩
      rw [← HMM2.out] at HM
      rw [← HMM.out] at HM ⊢
      rw [← HNJ.out] at HM hc
      clear hbk hbel hlen hmj hnj
      go_wp2_with (go_at_call 73; refine (HM.out _ (HBK.out.own j hlt)).mono ?_; rintro e w2 ⟨rfl, hg2, ho2⟩; have HG2 := hid hg2; have HO2 := hid ho2; clear hg2 ho2)
      refine ⟨⟨j + 1, by omega, by go_num, by rw [HMM2.out], HBK.out.mark hlt (by rw [← HNJ.out]; exact HG2.out) (by rw [← HNJ.out, ← HMM.out]; exact HO2.out), HBL.out.trans (grown_below HG2.out (Nat.le_trans hb HBL.out.size) (fun q hq => (HBK.out.rng j q hlt (by rw [← HNJ.out]; exact hq)).1))⟩, by simp [intOf]; omega⟩
    · have hjj : j = n := by omega
      subst hjj
      go_wp2
      go_ret
      exact ⟨rfl, HBK.out, HBL.out⟩

set_option maxHeartbeats 2000000 in
theorem held_ss (base g n c k : Nat) (ps : Nat → Option Addr) (cs ns : Nat → Nat) (bs : Nat → List Ch) (w : World) (h : Bk w base g n ps cs ns (mbs k ns bs n)) (hk : 0 < k) (hk1 : k ≤ 1000) (hn : n ≤ 5) (hns : ∀ i, i < n → ns i ≤ 20) :
    Calls Try.prog 33 #[.slice (some ⟨g, 0, none⟩) n c, .int .i64 (k : Int)] w fun e w' => e = .returned (.int .i64 (mks k ns n : Int)) ∧ Below w.heap.size w w' := by
  have HMK := hid (mks_le k ns n hns)
  have HH := hid h
  clear h
  go_enter Try.func33, Try.ntmps33
  go_wp2
  go_loopw [1, 5] (fun x i wr => ∃ j : Nat, j ≤ n ∧ i = .int .i64 (j : Int) ∧ x = .int .i64 (mks k ns j : Int) ∧ Below w.heap.size w wr) (fun _ i _ => n - (intOf i).toNat)
  case atStart => exact ⟨0, Nat.zero_le _, rfl, rfl, Below.refl _ _⟩
  case round =>
    obtain ⟨j, hj, rfl, rfl, hbel⟩ := hrel
    have hbk := HH.out.below hbel
    have HBK := hid hbk
    have HBL := hid hbel
    by_cases hlt : j < n
    · have hlt' : (j : Int) < (n : Int) := by omega
      have hj0 : (0 : Int) ≤ (j : Int) := by omega
      have hc := hbk.cell j hlt
      have hg := hbk.lt
      have hmj := HMK.out j hj
      have hnj := hns j hlt
      have hown := hbk.own j hlt
      have hmb : mbs k ns bs n j = chmarks (mks k ns j) (ns j) := by unfold mbs; rw [if_pos hlt]
      rw [hmb] at hown
      have HOW := hid hown
      have HM := hid (fun w' h1 => held_chs (ps j) (ns j) (cs j) (mks k ns j) w' h1 (by omega) (by omega))
      have HS : Hid (mks k ns (j + 1) = mks k ns j + 3 * ns j) := hid rfl
      rw [← HS.out] at HM
      obtain ⟨m, HMM⟩ : ∃ m, Hid (m = mks k ns j) := ⟨_, hid rfl⟩
      obtain ⟨m2, HMM2⟩ : ∃ m2, Hid (m2 = mks k ns (j + 1)) := ⟨_, hid rfl⟩
      obtain ⟨nj, HNJ⟩ : ∃ nj, Hid (nj = ns j) := ⟨_, hid rfl⟩
      have hm20 : (0 : Int) ≤ (m2 : Int) := by omega
      rw [← HMM2.out] at HM
      rw [← HMM.out, ← HNJ.out] at HOW
      rw [← HMM.out] at HM ⊢
      rw [← HNJ.out] at HM hc
      clear hbk hbel hmj hnj hown hmb
      go_wp2_with (go_at_call 74; refine (HM.out _ HOW.out).mono ?_; rintro e w2 ⟨rfl, hb2⟩)
      exact ⟨⟨j + 1, by omega, by go_num, by rw [HMM2.out], HBL.out.trans (hb2.mono HBL.out.size)⟩, by simp [intOf]; omega⟩
    · have hjj : j = n := by omega
      subst hjj
      go_wp2
      go_ret
      exact ⟨rfl, HBL.out⟩
/-- No batch at all. -/
theorem mark_ss0 (a : Option Addr) (c k : Nat) (w : World) : Calls Try.prog 32 #[.slice a 0 c, .int .i64 (k : Int)] w fun e w' => e = .returned (.int .i64 (k : Int)) ∧ w' = w := by
  go_enter Try.func32, Try.ntmps32
  go_wp2
  refine wp_loop_rounds 1 ?_
  rw [rounds_succ]
  go_wp2
  go_ret
  exact ⟨rfl, rfl⟩
theorem held_ss0 (a : Option Addr) (c k : Nat) (w : World) : Calls Try.prog 33 #[.slice a 0 c, .int .i64 (k : Int)] w fun e w' => e = .returned (.int .i64 (k : Int)) ∧ w' = w := by
  go_enter Try.func33, Try.ntmps33
  go_wp2
  refine wp_loop_rounds 1 ?_
  rw [rounds_succ]
  go_wp2
  go_ret
  exact ⟨rfl, rfl⟩
/-- Batches and what they were marked with, the case of none with it. -/
structure Bm (w : World) (base : Nat) (v : Value) (bss : List (List Ch)) (M : Nat) : Prop where
  held : ∀ w', Below w.heap.size w w' → Calls Try.prog 33 #[v, .int .i64 1] w' fun e w'' => e = .returned (.int .i64 (M : Int)) ∧ Below w'.heap.size w' w''
theorem Bm.below {w w' : World} {base : Nat} {v : Value} {bss : List (List Ch)} {M : Nat} (h : Bm w base v bss M) (hb : Below w.heap.size w w') : Bm w' base v bss M := ⟨fun w'' hb' => h.held w'' (hb.trans (hb'.mono hb.size))⟩
theorem mark_bat {w : World} {base : Nat} {v : Value} {bss : List (List Ch)} (h : Bat w base v bss) (hn : bss.length ≤ 5) (hl : ∀ x ∈ bss, x.length ≤ 20) (hb : base ≤ w.heap.size) : ∃ M : Nat, Calls Try.prog 32 #[v, .int .i64 1] w fun e w' => e = .returned (.int .i64 (M : Int)) ∧ Bm w' base v bss M ∧ Below base w w' := by
  by_cases h0 : bss = []
  · subst h0
    obtain ⟨a, c, rfl, _⟩ := h.bts
    refine ⟨1, (mark_ss0 a c 1 w).mono ?_⟩
    rintro e w' ⟨rfl, rfl⟩
    refine ⟨rfl, ⟨fun w'' hb'' => (held_ss0 a c 1 w'').mono ?_⟩, Below.refl _ _⟩
    rintro e w3 ⟨rfl, rfl⟩
    exact ⟨rfl, Below.refl _ _⟩
  · obtain ⟨g, c, ps, cs, rfl, hk⟩ := h.bk h0
    have hns : ∀ i, i < bss.length → (bss.getD i []).length ≤ 20 := fun i hi => hl _ (by simp [List.getD, hi])
    refine ⟨mks 1 (fun i => (bss.getD i []).length) bss.length, (mark_ss base g bss.length c 1 ps cs _ _ w hk (by omega) (by omega) hn hns hb).mono ?_⟩
    rintro e w' ⟨rfl, hk', hb'⟩
    exact ⟨rfl, ⟨fun w'' hb'' => held_ss base g bss.length c 1 ps cs _ _ w'' (hk'.below hb'') (by omega) (by omega) hn hns⟩, hb'⟩
end Go.Proofs.Ytnmaknnnmjfhkac
