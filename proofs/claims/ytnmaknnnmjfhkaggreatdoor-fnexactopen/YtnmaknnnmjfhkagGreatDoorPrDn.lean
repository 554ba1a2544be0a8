import Derived.Test.YtnmaknnnmjfhkagGreatDoorPrG35
import Derived.Test.YtnmaknnnmjfhkagGreatDoorPrVStI
import Derived.Test.YtnmaknnnmjfhkagGreatDoorPrG49
namespace Go.Proofs.YtnmaknnnmjfhkagGreatDoor
open Go.RowKit
set_option maxRecDepth 8000
set_option linter.unusedVariables false
set_option linter.unusedSimpArgs false
theorem own_apart {w w1 : World} {ops : List OpT} {a b : Option Addr} {n : Nat} (h : OwnS w b (opcells ops)) (hg : w.grownBy w1 (blk a n)) (ne : Apart a n b ops.length) : OwnS w1 b (opcells ops) :=
  h.grown hg (fun g hg hne => by
    rcases ne with h0 | h0 | h0
    · rw [h0]; simp
    · subst hg; rw [blk_pos g 0 _ (ne_of_opcells hne)] at h0; cases h0
    · subst hg; rw [blk_pos g 0 _ (ne_of_opcells hne)] at h0; exact fun e => h0 e.symm)
set_option maxHeartbeats 4000000 in
theorem eq_done (d : Dd) (a : Option Addr) (c : Nat) (b : Option Addr) (e : Nat) (a' : Option Addr) (c' : Nat) (b' : Option Addr) (e' : Nat) (w : World) (h1 : Prs w a d.rs) (h2 : Ops w b d.ops) (h3 : Prs w a' d.rs) (h4 : Ops w b' d.ops) (hl : d.rs.length ≤ 1048576) (hl2 : d.ops.length ≤ 1048576) :
    Calls Tryz.prog 13 #[dnV d a c b e, dnV d a' c' b' e'] w fun x w' => x = .returned (.bool true) ∧ Below w.heap.size w w' := by
  obtain ⟨C, W, S, L, T, H, F, R, U, O, rs, ops⟩ := d
  have hb0 : ∀ o1 o2, Below w.heap.size w ((w.alloc o1).alloc o2) := fun o1 o2 => ((Below.refl _ _).alloc (Nat.le_refl _) _).alloc (by simp) _
  have HES := hid (fun w' h' h'' => eq_store W S L T H F R U O a a' rs c c' w' h' h'' hl)
  unfold storeV at HES
  unfold dnV
  simp only at h1 h2 h3 h4 hl hl2
  go_enter Tryz.func13, Tryz.ntmps13
  go_wp2_with (first | (go_at_call 70; refine (HES.out _ (h1.below (hb0 _ _)) (h3.below (hb0 _ _))).mono ?_; rintro x w1 ⟨rfl, hb1⟩; have HB1 := hid ((hb0 _ _).trans (hb1.mono (by simp <;> omega))); have q1 : w1.cell? ⟨w.heap.size, 11, none⟩ = some (.slice b ops.length e) := (hb1.cell (p := ⟨w.heap.size, 11, none⟩) (by simp <;> omega)).trans (by go_simp); have q2 : w1.cell? ⟨w.heap.size + 1, 11, none⟩ = some (.slice b' ops.length e') := (hb1.cell (p := ⟨w.heap.size + 1, 11, none⟩) (by simp <;> omega)).trans (by go_simp); clear hb1) | (go_at_call 71; refine (eq_ops b b' ops e e' _ (h2.below HB1.out) (h4.below HB1.out) hl2).mono ?_; rintro x w2 ⟨rfl, hb2⟩))
  go_ret
  exact ⟨rfl, HB1.out.trans (hb2.mono HB1.out.size)⟩
set_option maxHeartbeats 4000000 in
theorem mark_done (d : Dd) (a : Option Addr) (c : Nat) (b : Option Addr) (e k : Nat) (w : World) (h : OwnDn w d.rs d.ops a b) (hk : 0 < k) (hl : k + 2 * d.rs.length + 3 * d.ops.length ≤ 100000000) :
    Calls Tryz.prog 16 #[dnV d a c b e, .int .i64 (k : Int)] w fun x w' => x = .returned (.int .i64 ((k + 2 * d.rs.length + 3 * d.ops.length : Nat) : Int)) ∧ (∃ w1 w2, Below w.heap.size w w1 ∧ w1.grownBy w2 (blk a d.rs.length) ∧ w2.grownBy w' (blk b d.ops.length)) ∧ OwnDn w' (prmarks k d.rs.length) (opmarks (k + 2 * d.rs.length) d.ops.length) a b := by
  obtain ⟨C, W, S, L, T, H, F, R, U, O, rs, ops⟩ := d
  simp only at h hl ⊢
  have hb0 : ∀ o, Below w.heap.size w (w.alloc o) := fun o => (Below.refl _ _).alloc (Nat.le_refl _) _
  have l1 := h.s.lt rs.length prcells_ne
  have l2 := h.p.lt ops.length opcells_ne
  have HMS := hid (fun w' h' => mark_store W S L T H F R U O a rs c k w' h' hk (by omega))
  obtain ⟨m, HM⟩ : ∃ m, Hid (m = k + 2 * rs.length) := ⟨_, hid rfl⟩
  have HMO := hid (fun w' h' => mark_ops b ops e m w' h' (by have := HM.out; omega) (by have := HM.out; omega))
  rw [← HM.out] at HMS ⊢
  unfold storeV at HMS
  unfold dnV
  simp only
  go_enter Tryz.func16, Tryz.ntmps16
  go_wp2_with (first | (go_at_call 76; refine (HMS.out _ (h.s.below (hb0 _))).mono ?_; rintro x w1 ⟨rfl, hg1, ho1⟩; have q1 : w1.cell? ⟨w.heap.size, 11, none⟩ = some (.slice b ops.length e) := (World.cell?_of_block (a := ⟨w.heap.size, 11, none⟩) (hg1.block w.heap.size (by simp) (fun e => by have := l1 _ e.symm; omega))).trans (by go_simp); have HG1 := hid hg1; have HO1 := hid ho1; clear hg1 ho1) | (go_at_call 77; refine (HMO.out _ (own_apart (h.p.below (hb0 _)) HG1.out h.ne)).mono ?_; rintro x w2 ⟨rfl, hg2, ho2⟩; have HG2 := hid hg2; have HO2 := hid ho2; clear hg2 ho2))
  go_ret
  refine ⟨rfl, ⟨_, w1, hb0 _, HG1.out, HG2.out⟩, ?_, HO2.out, ?_⟩
  · refine HO1.out.grown HG2.out (fun g hg hne => ?_)
    have hn1 : rs.length ≠ 0 := by have := ne_of_prcells hne; rwa [prmarks_length] at this
    subst hg
    rcases h.ne with h0 | h0 | h0
    · rw [blk_pos g 0 _ hn1] at h0; cases h0
    · rw [h0]; simp
    · rwa [blk_pos g 0 _ hn1] at h0
  · rw [prmarks_length, opmarks_length]; exact h.ne
set_option maxHeartbeats 4000000 in
theorem held_done (d : Dd) (a : Option Addr) (c : Nat) (b : Option Addr) (e k : Nat) (w : World) (h : OwnS w a (prcells (prmarks k d.rs.length))) (h' : OwnS w b (opcells (opmarks (k + 2 * d.rs.length) d.ops.length))) (hk : 0 < k) (hl : k + 2 * d.rs.length + 3 * d.ops.length ≤ 100000000) :
    Calls Tryz.prog 17 #[dnV d a c b e, .int .i64 (k : Int)] w fun x w' => x = .returned (.int .i64 ((k + 2 * d.rs.length + 3 * d.ops.length : Nat) : Int)) ∧ Below w.heap.size w w' := by
  obtain ⟨C, W, S, L, T, H, F, R, U, O, rs, ops⟩ := d
  simp only at h h' hl ⊢
  have hb0 : ∀ o, Below w.heap.size w (w.alloc o) := fun o => (Below.refl _ _).alloc (Nat.le_refl _) _
  have HMS := hid (fun w' h' => held_store W S L T H F R U O a rs.length c k w' h' hk (by omega))
  obtain ⟨m, HM⟩ : ∃ m, Hid (m = k + 2 * rs.length) := ⟨_, hid rfl⟩
  have HMO := hid (fun w' h' => held_ops b ops.length e m w' h' (by have := HM.out; omega) (by have := HM.out; omega))
  rw [← HM.out] at HMS h' ⊢
  obtain ⟨m2, HM2⟩ : ∃ m2, Hid (m2 = m + 3 * ops.length) := ⟨_, hid rfl⟩
  rw [← HM2.out] at HMO ⊢
  have hm0 : (0 : Int) ≤ (m : Int) := by omega
  have hm2 : (0 : Int) ≤ (m2 : Int) := by omega
  unfold storeV at HMS
  unfold dnV
  simp only
  go_enter Tryz.func17, Tryz.ntmps17
  go_wp2_with (first | (go_at_call 78; refine (HMS.out _ (h.below (hb0 _))).mono ?_; rintro x w1 ⟨rfl, hb1⟩; have q1 : w1.cell? ⟨w.heap.size, 11, none⟩ = some (.slice b ops.length e) := (hb1.cell (p := ⟨w.heap.size, 11, none⟩) (by simp)).trans (by go_simp); have HB1 := hid ((hb0 _).trans (hb1.mono (by simp))); clear hb1) | (go_at_call 79; refine (HMO.out _ (h'.below HB1.out)).mono ?_; rintro x w2 ⟨rfl, hb2⟩))
  go_ret
  exact ⟨rfl, HB1.out.trans (hb2.mono HB1.out.size)⟩
end Go.Proofs.YtnmaknnnmjfhkagGreatDoor
